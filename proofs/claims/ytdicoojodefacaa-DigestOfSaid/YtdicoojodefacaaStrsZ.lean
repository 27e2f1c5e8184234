/- A slice of texts that came in: how long each can be. Texts in a row of the call's own. -/
import Derived.Test.YtdicoojodefacaaStrs
import Derived.Test.YtdicoojodefacaaOwn
import Derived.SizedLaws
import Derived.Laws.AppendOwnNone
import Derived.Maps.AppendAt
namespace Go.Proofs.Ytdicoojodefacaa
open Go.ChangeShapes Go.WideShapes Go.ChangeAt Go.RowKit

section
variable {H : Type} {enc : TypeId × Value → H} {P : Program}
theorem weightsAll_mem {e : TypeId} : ∀ {l : List (DataW H)} {d : DataW H} {n : Nat}, d ∈ l → n ∈ d.weights P e → n ∈ DataW.weightsAll P e l
  | x :: l, d, n, hd, hn => by
    simp only [DataW.weightsAll, List.mem_append]
    rcases List.mem_cons.1 hd with rfl | hd
    · exact .inl hn
    · exact .inr (weightsAll_mem hd hn)

/-- A slice of texts that came in, each of them no longer than memory. -/
theorem texts_reach {ts : List TypeId} {ds : List (DataW H)} (hsz : (DataW.weightsEach P ts ds).all (· ≤ reachBytes) = true) {j : Nat} {t e : TypeId} {d : DataW H} (hts : ts[j]? = some t) (hds : ds[j]? = some d)
    (ht : P.underlying t = some (.slice e)) (he : P.underlying e = some .string) (hc : P.cellsOf e = 1) {W : World} {base : Nat} {v : Value} {p : List MemPlace} (hval : Value.okWide P W .any base t v)
    (h : DataW.Trod enc P W 0 (fun _ => true) true t v d p) : ∃ xs : List (List UInt8), Strs W v xs ∧ ∀ x ∈ xs, x.length ≤ 140737488355328 := by
  obtain ⟨a1, len, cap, rfl⟩ := okWide_slice ht hval
  obtain ⟨fuel, hf⟩ := h
  rcases open_strings ht he hc hf with ⟨hcs, _⟩ | ⟨a, len', cap', zs, hcs, _, hl, hm, hz, hx, hcell, hwz⟩
  · simp [Value.cells] at hcs
    obtain ⟨rfl, rfl, rfl⟩ := hcs
    exact ⟨[], .inl ⟨rfl, rfl⟩, by simp⟩
  · simp [Value.cells] at hcs
    obtain ⟨rfl, rfl, rfl⟩ := hcs
    simp only [if_true] at hz
    have hlen : (zs.take len).length = len := by simp; omega
    have hd : d = .slice (strs (zs.take len)) (strs (zs.drop len)) := congrArg Prod.fst hx
    refine ⟨(zs.take len).map fun s => s.data.toList, ?_, fun x hx' => ?_⟩
    · by_cases h0 : cap = 0
      · obtain rfl : cap = 0 := h0
        obtain rfl : len = 0 := by omega
        exact .inr (.inr ⟨a, rfl, by simp⟩)
      · obtain ⟨ab, ao, spot⟩ := a
        have hspot : spot = none := by simpa [Addr.add] using World.cell?_spot (hcell 0 (by omega))
        subst hspot
        refine .inr (.inl ⟨ab, ao, cap, by rw [List.length_map, hlen], by rw [List.length_map, hlen]; exact hl, hm, fun i hi => ?_⟩)
        rw [List.length_map, hlen] at hi
        have hcj := hcell i (by omega)
        rw [add_off] at hcj
        rw [hcj]
        simp [List.getD, List.getElem?_eq_getElem (show i < zs.length by omega)]
    · obtain ⟨s, hs, rfl⟩ := List.mem_map.1 hx'
      have hm : s.data.toList.length ∈ d.weights P t := by
        rw [hd]
        simp only [DataW.weights, ht, List.mem_cons, List.mem_append]
        refine .inr (.inl (weightsAll_mem (d := .lit (.string s.data.toList)) ?_ (by simp [DataW.weights])))
        exact List.mem_map.2 ⟨s, hs, rfl⟩
      have := List.all_eq_true.1 hsz _ (DataW.weights_mem_each hts hds _ hm)
      have h2 := reachBytes_lt
      simp only [decide_eq_true_eq] at this
      omega
end

/-- Texts in a row of the call's own. -/
def Texts (W : World) (base : Nat) (v : Value) (xs : List (List UInt8)) : Prop := W.ownsRow base 9 1 v xs.length (xs.map fun x => Value.string ⟨x.toArray⟩)

theorem Texts.nil (w : World) (base : Nat) : Texts w base (.slice none 0 0) [] := World.ownsRow_nil w base _ 1

theorem Texts.strs {w : World} {base : Nat} {v : Value} {xs : List (List UInt8)} (h : Texts w base v xs) : Strs w v xs := by
  by_cases h0 : 0 < xs.length
  · have hh := h
    obtain ⟨_, ⟨rfl, h2⟩ | ⟨g, cap, cur, rfl, h1, h2, h3, h4, _⟩⟩ := h
    · omega
    · refine .inr (.inl ⟨g, 0, cap, rfl, h3, h4, fun i hi => ?_⟩)
      have := World.ownsRow.cells hh (g := g) rfl i (.string ⟨xs[i].toArray⟩) (by simp [List.getElem?_map, List.getElem?_eq_getElem hi])
      rw [Addr.add_mid] at this
      exact this
  · obtain rfl : xs = [] := List.eq_nil_of_length_eq_zero (by omega)
    obtain ⟨_, ⟨rfl, h2⟩ | ⟨g, cap, cur, rfl, h1, h2, h3, h4, _⟩⟩ := h
    · exact .inl ⟨rfl, rfl⟩
    · exact .inr (.inl ⟨g, 0, cap, rfl, h3, h4, fun i hi => by simp at hi⟩)

theorem Texts.lt {w : World} {base : Nat} {v : Value} {xs : List (List UInt8)} (h : Texts w base v xs) : ∀ g, v.ownBlock = some g → base ≤ g ∧ g < w.heap.size := World.ownsRow.lt h

theorem undS : Try.prog.underlying 22 = some (.slice 9) := by kernel_rfl
theorem infS : (Try.prog.info? 9).map (fun i => (i.zero, i.size, i.bytes)) = some (some (.string ⟨#[]⟩), 1, 16) := by kernel_rfl
theorem infS' : ∃ i : TypeInfo, Try.prog.info? 9 = some i ∧ i.zero = some (.string ⟨#[]⟩) ∧ i.size = 1 ∧ i.bytes = 16 := by
  obtain ⟨i, h, h0, h1, h2⟩ := info_parts infS
  exact ⟨i, h, h0, h1, h2⟩

/-- What an append of texts leaves. -/
def AppT (w : World) (base : Nat) (v : Value) (xs : List (List UInt8)) (v' : Value) (w' : World) : Prop :=
  Texts w' base v' xs ∧ w.grownBy w' v.ownBlock ∧ (v'.ownBlock = v.ownBlock ∨ v'.ownBlock = some w.heap.size)

/-- append(s, x...) of texts. -/
theorem wpList_append_txt {w : World} {ops : Array Oper} {rest : List Oper} {o : Oper} {a : Act} {Q : Exit → Act → World → Prop} (hgd : o.guard = none) (s x : Operand)
    (ho : o.op = .call { callee := .builtin .append, args := #[s, x], argTypes := #[22, 22] })
    (base : Nat) (v u : Value) (xs ys : List (List UInt8)) (hs : a.eval s = v) (hx : a.eval x = u) (hown : Texts w base v xs) (hu : Strs w u ys)
    (hn : xs.length + ys.length ≤ 1000000000000) (hbase : base ≤ w.heap.size)
    (h : ∀ v' w', AppT w base v (xs ++ ys) v' w' → wpList Try.prog ops Q rest (a.put o.dst v') w') : wpList Try.prog ops Q (o :: rest) a w := by
  obtain ⟨i, hi, hz0, hz1, hz2⟩ := infS'
  have h1c : ∀ y ∈ ys.map (fun x => Value.string ⟨x.toArray⟩), y.oneCell' = true := fun y hy => by
    obtain ⟨z, _, rfl⟩ := List.mem_map.1 hy
    rfl
  rcases hu with ⟨rfl, rfl⟩ | ⟨b, off, c, rfl, h1, h2, h3⟩ | ⟨ad, rfl, rfl⟩
  · refine wpList_append_own_none hgd s x _ ho base _ i 1 undS hi v xs.length _ hs hown hx (h v w ⟨?_, World.grownBy.refl _ _, .inl rfl⟩)
    rw [List.append_nil]; exact hown
  · refine wpList_append_own_at _ hgd s x _ ho base _ i _ 1 16 undS hi hz0 hz1 hz2 rfl (by omega) v xs.length _ hs hown ⟨b, off, none⟩ ys.length c (ys.map fun x => Value.string ⟨x.toArray⟩) hx (by simp) (fun j y hj => ?_) h1c (by unfold maxLen; omega) (by omega) hbase ?_
    · rw [List.getElem?_map, Option.map_eq_some_iff] at hj
      obtain ⟨z, hz, rfl⟩ := hj
      obtain ⟨hj, rfl⟩ := List.getElem?_eq_some_iff.1 hz
      rw [Addr.add_mid]
      exact h3 j hj
    · intro v' w' k1 k2 _ k4
      refine h v' w' ⟨?_, k2, k4⟩
      unfold Texts
      rw [List.length_append, List.map_append]
      exact k1
  · refine wpList_append_own_at _ hgd s x _ ho base _ i _ 1 16 undS hi hz0 hz1 hz2 rfl (by omega) v xs.length _ hs hown ad 0 0 [] hx (by simp) (fun j u hj => by simp at hj) (by simp) (by unfold maxLen; simp at hn; omega) (by simp at hn; omega) hbase ?_
    intro v' w' k1 k2 _ k4
    refine h v' w' ⟨?_, k2, k4⟩
    rw [List.append_nil] at k1 ⊢
    exact k1

/-- An operation whose guard holds is as one without. -/
theorem wpList_free {P : Program} {ops : Array Oper} {rest : List Oper} {o : Oper} {a : Act} {w : World} {Q : Exit → Act → World → Prop} (hw : Region.wanted o (yielded ops a.tmps) = true) (h : wpList P ops Q ({ o with guard := none } :: rest) a w) : wpList P ops Q (o :: rest) a w := by
  unfold wpList at h ⊢
  rw [if_pos hw]
  rw [if_pos (show Region.wanted { o with guard := none } (yielded ops a.tmps) = true from rfl)] at h
  exact h
end Go.Proofs.Ytdicoojodefacaa
