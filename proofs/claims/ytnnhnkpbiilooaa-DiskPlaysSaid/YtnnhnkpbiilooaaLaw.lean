/- What ends a statement: the call returned true, and of what was there nothing has turned. What an argument gives to a walk. -/
import Derived.Test.YtnnhnkpbiilooaaBase
import Derived.ProofKit
import Derived.OpenShut
import Derived.Below
import Derived.Carry
import Derived.ChangeSame
import Derived.ChangeSlices
import Derived.ChangeMaps5
import Derived.Deep.SlicePairs
import Derived.SliceStrings
namespace Go.Proofs.Ytnnhnkpbiilooaa
open Go.ChangeShapes Go.WideShapes Go.ChangeAt Go.RowKit

section
variable {H : Type} {enc : TypeId × Value → H} {P : Program}

theorem below_of {W W' : World} (hg : W.grownBy W' none) : Below W.heap.size W W' := ⟨hg.os, hg.tape, hg.output, hg.size, fun k hk => hg.block k hk (by simp)⟩

/-- Arguments read as they did, if below the old heap's size nothing has turned. -/
theorem all_stay (hl : laidOutB P = true) {W W' : World} (hb : Below W.heap.size W W') : ∀ (ts : List TypeId) (vs : List Value) (ds : List (DataW H)) (ps : List MemPlace), (∀ t ∈ ts, P.readableRec t = true ∧ t < P.types.size) →
    DataW.TrodAll enc P W 0 (fun _ => true) true ts vs ds ps → (∀ x ∈ ps, x.block < W.heap.size) → DataW.TrodAll enc P W' 0 (fun b => decide (b < W.heap.size)) true ts vs ds ps
  | [], [], [], _, _, h, _ => h
  | t :: ts, v :: vs, d :: ds, ps, hr, h, hp => by
    obtain ⟨p, q, h1, h2, rfl⟩ := h
    have ht := hr t (by simp)
    exact ⟨p, q, Below.trod hl ht.1 ht.2 h1 hb (fun x hx => hp x (by simp [hx])), all_stay hl hb ts vs ds q (fun t ht => hr t (by simp [ht])) h2 (fun x hx => hp x (by simp [hx])), rfl⟩
  | [], _ :: _, _, _, _, h, _ => h.elim
  | [], [], _ :: _, _, _, h, _ => h.elim
  | _ :: _, [], _, _, _, h, _ => h.elim
  | _ :: _, _ :: _, [], _, _, h, _ => h.elim

/-- THE END OF A STATEMENT's PROOF. -/
theorem law_end {f : Func} {s : ChangeSpec} {tb : TypeId} {W W' : World} {args : Array Value} {ds gs : List (DataW H)} {before : List MemPlace} (hl : laidOutB P = true) (hr : ∀ t ∈ f.params.toList, P.readableRec t = true ∧ t < P.types.size)
    (hv : s.vars = []) (hW : DataW.Whole enc P f.params.toList s.vars false W args.toList ds gs before) (hfn : s.fn H (ds ++ gs) = { results := [.lit (.bool true)], args := ds })
    (ht : f.resultTypes = #[tb]) (hb : P.underlying tb = some .bool) (hg : W.grownBy W' none) : s.post enc P f false true false false W args (.bool true) W' := by
  have hB := below_of hg
  have hlt : ∀ x ∈ before, x.block < W.heap.size := fun x hx => by simpa using hW.lt x hx
  have hW' := hW
  obtain ⟨p, q, hA, hV, hps, _, _⟩ := hW
  rw [hv] at hV
  obtain ⟨hgs, hq⟩ := trodVars_none hV
  subst hq
  rw [List.append_nil] at hps
  subst hps
  refine ⟨ds, gs, before, [], before, [], hW', ?_, ?_, ?_, World.keptBut_mono (fun x hx => ⟨hx, .inr (.inl hx)⟩) (hB.frame (· ∈ before)), fun h => by cases h⟩
  · rw [hfn, ht]
    exact trodAll_cons_mk (shut_bool hb true) trodAll_mk0
  · rw [hfn]
    exact all_stay hl hB _ _ _ _ hr hA hlt
  · rw [hfn, hv]
    rfl

/-- A slice of bytes that came in. -/
theorem open_bts {t e : TypeId} (ht : P.underlying t = some (.slice e)) (he : P.underlying e = some (.int .u8)) (hc : P.cellsOf e = 1) {W : World} {base : Nat} {v : Value} {d : DataW H} {p : List MemPlace} (hval : Value.okWide P W .any base t v)
    (h : DataW.Trod enc P W 0 (fun _ => true) true t v d p) : ∃ bs, Bts W v bs := by
  obtain ⟨a1, len, cap, rfl⟩ := okWide_slice ht hval
  obtain ⟨fuel, hf⟩ := h
  rcases open_ints ht he hc hf with ⟨hcs, _⟩ | ⟨a, len', cap', zs, hcs, _, hl, hm, hz, hx, hcell, hwz⟩
  · simp [Value.cells] at hcs
    obtain ⟨rfl, rfl, rfl⟩ := hcs
    exact ⟨[], Bts.nil W⟩
  · simp [Value.cells] at hcs
    obtain ⟨rfl, rfl, rfl⟩ := hcs
    simp only [if_true] at hz
    have hlen : ((zs.take len).map fun n => UInt8.ofNat n.toNat).length = len := by simp; omega
    refine ⟨(zs.take len).map fun n => UInt8.ofNat n.toNat, ?_⟩
    by_cases h0 : cap = 0
    · obtain rfl : cap = 0 := h0
      obtain rfl : len = 0 := by omega
      exact .inr (.inr ⟨a, rfl, by simp⟩)
    · obtain ⟨ab, ao, spot⟩ := a
      have hspot : spot = none := by simpa [Addr.add] using World.cell?_spot (hcell 0 (by omega))
      subst hspot
      refine .inr (.inl ⟨ab, ao, cap, by rw [hlen], by rw [hlen]; exact hl, hm, fun i hi => ?_⟩)
      have hcj := hcell i (by omega)
      have hadd : (⟨ab, ao, none⟩ : Addr).add i = ⟨ab, ao + i, none⟩ := by unfold Addr.add; split <;> simp_all
      rw [hadd] at hcj
      rw [hcj]
      have hb := hwz (zs.getD i 0) (by simp [List.getD, List.getElem?_eq_getElem (show i < zs.length by omega)])
      simp [Lit.wf, IntKind.min, IntKind.max, IntKind.signed, IntKind.bits] at hb
      simp only [List.getElem_map, List.getElem_take, UInt8.toNat_ofNat']
      simp [List.getD, List.getElem?_eq_getElem (show i < zs.length by omega)] at hb ⊢
      omega

/-- A slice of n elements of so many cells each; its cells. -/
def Elems (w : World) (v : Value) (size n : Nat) (cell : Nat → Value) : Prop :=
  (v = .slice none 0 0 ∧ n = 0) ∨ (∃ b o c, v = .slice (some ⟨b, o, none⟩) n c ∧ n ≤ c ∧ c ≤ maxLen ∧ ∀ i, i < n * size → w.cell? ⟨b, o + i, none⟩ = some (cell i)) ∨ ∃ a, v = .slice (some a) 0 0 ∧ n = 0

theorem Elems.form {w : World} {v : Value} {size n : Nat} {cell : Nat → Value} (h : Elems w v size n cell) : ∃ a c, v = .slice a n c ∧ n ≤ maxLen := by
  rcases h with ⟨rfl, rfl⟩ | ⟨b, o, c, rfl, h1, h2, _⟩ | ⟨a, rfl, rfl⟩
  · exact ⟨_, _, rfl, Nat.zero_le _⟩
  · exact ⟨_, _, rfl, by omega⟩
  · exact ⟨_, _, rfl, Nat.zero_le _⟩

theorem Elems.cells {w : World} {a : Option Addr} {c size n : Nat} {cell : Nat → Value} (h : Elems w (.slice a n c) size n cell) (h0 : 0 < n) : ∃ b o, a = some ⟨b, o, none⟩ ∧ ∀ i, i < n * size → w.cell? ⟨b, o + i, none⟩ = some (cell i) := by
  rcases h with ⟨_, rfl⟩ | ⟨b, o, c, h1, _, _, h4⟩ | ⟨a, _, rfl⟩
  · omega
  · cases h1
    exact ⟨b, o, rfl, h4⟩
  · omega

theorem add_off {ab ao i : Nat} : (⟨ab, ao, none⟩ : Addr).add i = ⟨ab, ao + i, none⟩ := by unfold Addr.add; split <;> simp_all

/-- A slice of numbers that came in. -/
theorem open_nums {k : IntKind} {t e : TypeId} (ht : P.underlying t = some (.slice e)) (he : P.underlying e = some (.int k)) (hc : P.cellsOf e = 1) {W : World} {base : Nat} {v : Value} {d : DataW H} {p : List MemPlace} (hval : Value.okWide P W .any base t v)
    (h : DataW.Trod enc P W 0 (fun _ => true) true t v d p) : ∃ zs : List Int, (∀ n ∈ zs, (Lit.int k n).wf = true) ∧ Elems W v 1 zs.length (fun i => .int k (zs.getD i 0)) := by
  obtain ⟨a1, len, cap, rfl⟩ := okWide_slice ht hval
  obtain ⟨fuel, hf⟩ := h
  rcases open_ints ht he hc hf with ⟨hcs, _⟩ | ⟨a, len', cap', zs, hcs, _, hl, hm, hz, hx, hcell, hwz⟩
  · simp [Value.cells] at hcs
    obtain ⟨rfl, rfl, rfl⟩ := hcs
    exact ⟨[], by simp, .inl ⟨rfl, rfl⟩⟩
  · simp [Value.cells] at hcs
    obtain ⟨rfl, rfl, rfl⟩ := hcs
    simp only [if_true] at hz
    have hlen : (zs.take len).length = len := by simp; omega
    refine ⟨zs.take len, fun n hn => hwz n (List.mem_of_mem_take hn), ?_⟩
    by_cases h0 : cap = 0
    · obtain rfl : cap = 0 := h0
      obtain rfl : len = 0 := by omega
      exact .inr (.inr ⟨a, rfl, by simp⟩)
    · obtain ⟨ab, ao, spot⟩ := a
      have hspot : spot = none := by simpa [Addr.add] using World.cell?_spot (hcell 0 (by omega))
      subst hspot
      refine .inr (.inl ⟨ab, ao, cap, by rw [hlen], by rw [hlen]; exact hl, hm, fun i hi => ?_⟩)
      rw [hlen, Nat.mul_one] at hi
      have hcj := hcell i (by omega)
      rw [add_off] at hcj
      rw [hcj]
      simp [List.getD, hi]

/-- A slice of texts that came in. -/
theorem open_texts {t e : TypeId} (ht : P.underlying t = some (.slice e)) (he : P.underlying e = some .string) (hc : P.cellsOf e = 1) {W : World} {base : Nat} {v : Value} {d : DataW H} {p : List MemPlace} (hval : Value.okWide P W .any base t v)
    (h : DataW.Trod enc P W 0 (fun _ => true) true t v d p) : ∃ ss : List ByteArray, (∀ s ∈ ss, s.size ≤ maxLen) ∧ Elems W v 1 ss.length (fun i => .string (ss.getD i ByteArray.empty)) := by
  obtain ⟨a1, len, cap, rfl⟩ := okWide_slice ht hval
  obtain ⟨fuel, hf⟩ := h
  rcases open_strings ht he hc hf with ⟨hcs, _⟩ | ⟨a, len', cap', zs, hcs, _, hl, hm, hz, hx, hcell, hwz⟩
  · simp [Value.cells] at hcs
    obtain ⟨rfl, rfl, rfl⟩ := hcs
    exact ⟨[], by simp, .inl ⟨rfl, rfl⟩⟩
  · simp [Value.cells] at hcs
    obtain ⟨rfl, rfl, rfl⟩ := hcs
    simp only [if_true] at hz
    have hlen : (zs.take len).length = len := by simp; omega
    refine ⟨zs.take len, fun n hn => hwz n (List.mem_of_mem_take hn), ?_⟩
    by_cases h0 : cap = 0
    · obtain rfl : cap = 0 := h0
      obtain rfl : len = 0 := by omega
      exact .inr (.inr ⟨a, rfl, by simp⟩)
    · obtain ⟨ab, ao, spot⟩ := a
      have hspot : spot = none := by simpa [Addr.add] using World.cell?_spot (hcell 0 (by omega))
      subst hspot
      refine .inr (.inl ⟨ab, ao, cap, by rw [hlen], by rw [hlen]; exact hl, hm, fun i hi => ?_⟩)
      rw [hlen, Nat.mul_one] at hi
      have hcj := hcell i (by omega)
      rw [add_off] at hcj
      rw [hcj]
      simp [List.getD, hi]

/-- The cells of structs of two numbers. -/
def pairAt (k0 k1 : IntKind) (zs : List (Int × Int)) (i : Nat) : Value := if i % 2 = 0 then .int k0 (zs.getD (i / 2) (0, 0)).1 else .int k1 (zs.getD (i / 2) (0, 0)).2

/-- A slice of structs of a number of 8 bits and an int that came in. -/
theorem open_pairs {t e : TypeId} {f0 f1 : Field} (ht : P.underlying t = some (.slice e)) (he : P.underlying e = some (.struct #[f0, f1])) (ce : P.cellsOf e = 2) (o0 : f0.offset = 0) (o1 : f1.offset = 1) (c0 : P.cellsOf f0.type = 1) (c1 : P.cellsOf f1.type = 1)
    {k0 k1 : IntKind} (h0 : P.underlying f0.type = some (.int k0)) (h1 : P.underlying f1.type = some (.int k1)) {W : World} {base : Nat} {v : Value} {d : DataW H} {p : List MemPlace} (hval : Value.okWide P W .any base t v)
    (h : DataW.Trod enc P W 0 (fun _ => true) true t v d p) : ∃ zs : List (Int × Int), (∀ z ∈ zs, (Lit.int k0 z.1).wf = true ∧ (Lit.int k1 z.2).wf = true) ∧ Elems W v 2 zs.length (pairAt k0 k1 zs) := by
  obtain ⟨a1, len, cap, rfl⟩ := okWide_slice ht hval
  obtain ⟨fuel, hf⟩ := h
  rcases Deep.open_slice_pairs ht he ce o0 o1 c0 c1 hf with ⟨hcs, _⟩ | ⟨a, len', cap', m, n, V0, V1, D0, D1, P0, P1, hcs, _, hl, hm, hmm, hx, hall⟩
  · simp [Value.cells] at hcs
    obtain ⟨rfl, rfl, rfl⟩ := hcs
    exact ⟨[], by simp, .inl ⟨rfl, rfl⟩⟩
  · simp [Value.cells] at hcs
    obtain ⟨rfl, rfl, rfl⟩ := hcs
    simp only [if_true] at hmm
    subst hmm
    by_cases h00 : m = 0
    · subst h00
      obtain rfl : len = 0 := by omega
      exact ⟨[], by simp, .inr (.inr ⟨a, rfl, by simp⟩)⟩
    · obtain ⟨ab, ao, spot⟩ := a
      have hspot : spot = none := by simpa [Addr.add] using World.cell?_spot (hall 0 (by omega)).1
      subst hspot
      have each : ∀ i, i < m → ∃ z : Int × Int, V0 i = .int k0 z.1 ∧ V1 i = .int k1 z.2 ∧ (Lit.int k0 z.1).wf = true ∧ (Lit.int k1 z.2).wf = true := fun i hi => by
        obtain ⟨_, _, g0, g1⟩ := hall i hi
        obtain ⟨z0, e0, _, w0⟩ := DataW.trod_int h0 g0
        obtain ⟨z1, e1, _, w1⟩ := DataW.trod_int h1 g1
        exact ⟨(z0, z1), by simpa using e0, by simpa using e1, w0, w1⟩
      obtain ⟨Z, hZ⟩ := Deep.choose_lt each
      have get : ∀ i, i < len → ((List.range len).map Z).getD i (0, 0) = Z i := fun i hi => by simp [List.getD, hi]
      refine ⟨(List.range len).map Z, fun z hz => ?_, .inr (.inl ⟨ab, ao, m, by simp, by simpa using hl, hm, fun i hi => ?_⟩)⟩
      · obtain ⟨i, hi, rfl⟩ := List.mem_map.1 hz
        have := hZ i (by have := List.mem_range.1 hi; omega)
        exact ⟨this.2.2.1, this.2.2.2⟩
      · simp only [List.length_map, List.length_range] at hi
        have hz := hZ (i / 2) (by omega)
        obtain ⟨g0, g1, _, _⟩ := hall (i / 2) (by omega)
        rw [add_off] at g0 g1
        unfold pairAt
        by_cases hp : i % 2 = 0
        · rw [if_pos hp, get _ (by omega), ← hz.1, ← g0]
          congr 2; omega
        · rw [if_neg hp, get _ (by omega), ← hz.2.1, ← g1]
          congr 2; omega
end
end Go.Proofs.Ytnnhnkpbiilooaa
