/- Texts put together and compared; two readers alive at once. -/
import Derived.Test.YtahmpgaohjopeaaAwk
import Derived.Laws.AppendOwnNone
namespace Go.Proofs.Ytahmpgaohjopeaa
open Go.RowKit

/-- A slice of texts, whosoever's. -/
def Strs (w : World) (v : Value) (xs : List (List UInt8)) : Prop :=
  (v = .slice none 0 0 ∧ xs = []) ∨ (∃ b o c, v = .slice (some ⟨b, o, none⟩) xs.length c ∧ xs.length ≤ c ∧ c ≤ maxLen ∧ ∀ i (h : i < xs.length), w.cell? ⟨b, o + i, none⟩ = some (txt xs[i])) ∨ ∃ a, v = .slice (some a) 0 0 ∧ xs = []

theorem Strs.form {w : World} {v : Value} {xs : List (List UInt8)} (h : Strs w v xs) : ∃ a c, v = .slice a xs.length c ∧ xs.length ≤ c ∧ c ≤ maxLen := by
  rcases h with ⟨rfl, rfl⟩ | ⟨b, o, c, rfl, h1, h2, _⟩ | ⟨a, rfl, rfl⟩
  · exact ⟨none, 0, rfl, Nat.le_refl _, Nat.zero_le _⟩
  · exact ⟨_, _, rfl, h1, h2⟩
  · exact ⟨_, 0, rfl, Nat.le_refl _, Nat.zero_le _⟩

theorem Strs.at {w : World} {v : Value} {xs : List (List UInt8)} (h : Strs w v xs) (h0 : 0 < xs.length) : ∃ b o c, v = .slice (some ⟨b, o, none⟩) xs.length c ∧ ∀ i (h : i < xs.length), w.cell? ⟨b, o + i, none⟩ = some (txt xs[i]) := by
  rcases h with ⟨_, rfl⟩ | ⟨b, o, c, rfl, _, _, h3⟩ | ⟨a, _, rfl⟩
  · exact absurd h0 (by simp)
  · exact ⟨b, o, c, rfl, h3⟩
  · exact absurd h0 (by simp)

theorem Texts.strs {w : World} {base : Nat} {v : Value} {xs : List (List UInt8)} (h : Texts w base v xs) : Strs w v xs := by
  by_cases h0 : 0 < xs.length
  · have hh := h
    obtain ⟨_, ⟨rfl, h2⟩ | ⟨g, cap, cur, rfl, h1, h2, h3, h4, _⟩⟩ := h
    · omega
    · refine .inr (.inl ⟨g, 0, cap, rfl, h3, h4, fun i hi => ?_⟩)
      have := World.ownsRow.cells hh (g := g) rfl i (txt xs[i]) (by simp [List.getElem?_map, List.getElem?_eq_getElem hi])
      rw [Addr.add_mid] at this
      exact this
  · obtain rfl : xs = [] := List.eq_nil_of_length_eq_zero (by omega)
    obtain ⟨_, ⟨rfl, h2⟩ | ⟨g, cap, cur, rfl, h1, h2, h3, h4, _⟩⟩ := h
    · exact .inl ⟨rfl, rfl⟩
    · exact .inr (.inl ⟨g, 0, cap, rfl, h3, h4, fun i hi => by simp at hi⟩)

theorem Strs.kept {w w' : World} {row : Option Nat} {v : Value} {xs : List (List UInt8)} (h : Strs w v xs) (hg : w.grownBy w' row) (hne : v.ownBlock = none ∨ v.ownBlock ≠ row) : Strs w' v xs := by
  rcases h with h | ⟨b, o, c, rfl, h1, h2, h3⟩ | h
  · exact .inl h
  · refine .inr (.inl ⟨b, o, c, rfl, h1, h2, fun i hi => ?_⟩)
    refine hg.cell (h3 i hi) ?_
    rcases hne with hne | hne
    · simp [Value.ownBlock] at hne
    · simpa [Value.ownBlock] using hne
  · exact .inr (.inr h)

theorem Strs.new {w w' : World} {v : Value} {xs : List (List UInt8)} (h : Strs w v xs) (hg : w.grownBy w' none) : Strs w' v xs := by
  refine h.kept hg ?_
  cases v.ownBlock <;> simp

set_option maxHeartbeats 800000 in
theorem same_true (u v : Value) (xs : List (List UInt8)) (w : World) (hu : Strs w u xs) (hv : Strs w v xs) :
    Calls Try.prog 14 #[u, v] w fun e w' => e = .returned (.bool true) ∧ w.grownBy w' none := by
  obtain ⟨a1, c1, rfl, h1, h1m⟩ := hu.form
  obtain ⟨a2, c2, rfl, h2, h2m⟩ := hv.form
  have hl : (xs.length : Int) ≤ 9223372036854775807 := by unfold maxLen at h1m; omega
  have HU := Lib.hid hu; have HV := Lib.hid hv
  clear hu hv h1m h2m h1 h2
  obtain ⟨n, hn⟩ : ∃ n, n = xs.length := ⟨_, rfl⟩
  rw [← hn] at hl HU HV ⊢
  have HN := Lib.hid hn; clear hn
  go_enter Try.func14, Try.ntmps14
  go_wp2_with fail
  go_loopw [5] (fun i w' => ∃ k : Nat, k ≤ n ∧ i = .int .i64 k ∧ w.grownBy w' none) (fun i _ => n - (intOf i).toNat)
  case atStart => exact ⟨0, Nat.zero_le _, rfl, World.grownBy.refl _ _⟩
  case round =>
    obtain ⟨k, hk, rfl, hgr⟩ := hrel
    by_cases hlt : k < n
    · have hlt' : k < xs.length := by rw [← HN.out]; exact hlt
      have hu := HU.out; have hv := HV.out
      rw [HN.out] at hu hv
      obtain ⟨b1, o1, d1, e1, q1⟩ := hu.at (by omega)
      obtain ⟨b2, o2, d2, e2, q2⟩ := hv.at (by omega)
      cases e1; cases e2
      have l1 := hgr.cell (q1 k hlt') (by simp)
      have l2 := hgr.cell (q2 k hlt') (by simp)
      simp only [txt] at l1 l2
      have HG := Lib.hid hgr
      clear q1 q2 hgr hu hv
      generalize xs[k] = x at *
      have hk0 : (0 : Int) ≤ k := by omega
      have hk1 : (k : Int) < n := by omega
      go_wp2_with fail
      go_quiet (fail)
      go_wp2_with fail
      go_roundw
      case rel => exact ⟨k + 1, by omega, by go_num, World.grownBy.trans HG.out (drewN_grown _ _)⟩
      case measure => simp [intOf]; omega
    · obtain rfl : k = n := by omega
      have HG := Lib.hid hgr; clear hgr
      go_wp2_with fail
      go_ret
      exact ⟨rfl, HG.out⟩

theorem Texts.low {w : World} {base b' : Nat} {v : Value} {xs : List (List UInt8)} (h : Texts w base v xs) (hb : b' ≤ base) : Texts w b' v xs := by
  obtain ⟨h1, h2 | ⟨g, cap, cur, h3, h4, h5⟩⟩ := h
  · exact ⟨h1, .inl h2⟩
  · exact ⟨h1, .inr ⟨g, cap, cur, h3, Nat.le_trans hb h4, h5⟩⟩

theorem Texts.lt {w : World} {base : Nat} {v : Value} {xs : List (List UInt8)} (h : Texts w base v xs) : ∀ g, v.ownBlock = some g → base ≤ g ∧ g < w.heap.size := World.ownsRow.lt h

theorem Texts.kept {w w' : World} {base : Nat} {v : Value} {xs : List (List UInt8)} {row : Option Nat} (h : Texts w base v xs) (hg : w.grownBy w' row) (hne : v.ownBlock = none ∨ v.ownBlock ≠ row) : Texts w' base v xs := World.ownsRow.kept h hg hne

theorem Texts.new {w w' : World} {base : Nat} {v : Value} {xs : List (List UInt8)} (h : Texts w base v xs) (hg : w.grownBy w' none) : Texts w' base v xs := by
  refine h.kept hg ?_
  cases v.ownBlock <;> simp

theorem infS' : ∃ i : TypeInfo, Try.prog.info? 9 = some i ∧ i.zero = some (.string ⟨#[]⟩) ∧ i.size = 1 ∧ i.bytes = 16 := by
  obtain ⟨i, h, h0, h1, h2⟩ := info_parts infS
  exact ⟨i, h, h0, h1, h2⟩

/-- What an append of texts leaves. -/
def AppT (w : World) (base : Nat) (v : Value) (xs : List (List UInt8)) (v' : Value) (w' : World) : Prop :=
  Texts w' base v' xs ∧ w.grownBy w' v.ownBlock ∧ (v'.ownBlock = v.ownBlock ∨ v'.ownBlock = some w.heap.size)

/-- append(s, x...) of texts. -/
theorem wpList_append_txt {w : World} {ops : Array Oper} {rest : List Oper} {o : Oper} {a : Act} {Q : Exit → Act → World → Prop} (hgd : o.guard = none) (s x : Operand)
    (ho : o.op = .call { callee := .builtin .append, args := #[s, x], argTypes := #[31, 31] })
    (base : Nat) (v u : Value) (xs ys : List (List UInt8)) (hs : a.eval s = v) (hx : a.eval x = u) (hown : Texts w base v xs) (hu : Strs w u ys)
    (hn : xs.length + ys.length ≤ 1000000000000) (hbase : base ≤ w.heap.size)
    (h : ∀ v' w', AppT w base v (xs ++ ys) v' w' → wpList Try.prog ops Q rest (a.put o.dst v') w') : wpList Try.prog ops Q (o :: rest) a w := by
  obtain ⟨i, hi, hz0, hz1, hz2⟩ := infS'
  have h1c : ∀ y ∈ ys.map txt, y.oneCell' = true := fun y hy => by
    obtain ⟨z, _, rfl⟩ := List.mem_map.1 hy
    rfl
  rcases hu with ⟨rfl, rfl⟩ | ⟨b, off, c, rfl, h1, h2, h3⟩ | ⟨ad, rfl, rfl⟩
  · refine wpList_append_own_none hgd s x _ ho base _ i 1 und31 hi v xs.length (xs.map txt) hs hown hx (h v w ⟨?_, World.grownBy.refl _ _, .inl rfl⟩)
    rw [List.append_nil]; exact hown
  · refine wpList_append_own_at _ hgd s x _ ho base _ i _ 1 16 und31 hi hz0 hz1 hz2 rfl (by omega) v xs.length (xs.map txt) hs hown ⟨b, off, none⟩ ys.length c (ys.map txt) hx (by simp) (fun j y hj => ?_) h1c (by unfold maxLen; omega) (by omega) hbase ?_
    · rw [List.getElem?_map, Option.map_eq_some_iff] at hj
      obtain ⟨z, hz, rfl⟩ := hj
      obtain ⟨hj, rfl⟩ := List.getElem?_eq_some_iff.1 hz
      rw [Addr.add_mid]
      exact h3 j hj
    · intro v' w' k1 k2 _ k4
      refine h v' w' ⟨?_, k2, k4⟩
      unfold Texts
      rw [List.length_append, List.map_append]
      exact k1
  · refine wpList_append_own_at _ hgd s x _ ho base _ i _ 1 16 und31 hi hz0 hz1 hz2 rfl (by omega) v xs.length (xs.map txt) hs hown ad 0 0 [] hx (by simp) (fun j u hj => by simp at hj) (by simp) (by unfold maxLen; simp at hn; omega) (by simp at hn; omega) hbase ?_
    intro v' w' k1 k2 _ k4
    refine h v' w' ⟨?_, k2, k4⟩
    rw [List.append_nil] at k1 ⊢
    exact k1

/-- A reader stays, whatever is appended to texts. -/
theorem RS.row {w w' : World} {r : Nat} {v : Value} {s : Ms} {base : Nat} {p : Value} {xs : List (List UInt8)} (h : RS w r v s) (hp : Texts w base p xs) (hg : w.grownBy w' p.ownBlock) : RS w' r v s := by
  obtain ⟨h0, h1, h2, h3, hb, ht, hv⟩ := h
  refine ⟨h0, h1, h2, h3, hb.kept hg (fun e => ?_), ht, hv.kept hg ?_⟩
  · obtain ⟨_, cur, hc⟩ := hp.blk r e.symm
    exact hb.ne hc (by decide) rfl
  · rcases hob : v.ownBlock with _ | g
    · exact .inl rfl
    · refine .inr fun e => ?_
      obtain ⟨_, cur, hc⟩ := hp.blk g e.symm
      obtain ⟨cur', hc'⟩ := hv.blk g hob
      exact hc'.ne hc (by decide) rfl

/-- Two values lie apart. -/
def Far (u v : Value) : Prop := u.ownBlock = none ∨ u.ownBlock ≠ v.ownBlock

theorem Far.symm {u v : Value} (h : Far u v) : Far v u := by
  rcases h with h | h
  · rcases hv : v.ownBlock with _ | g
    · exact .inl hv
    · exact .inr (by rw [h, hv]; simp)
  · exact .inr fun e => h e.symm

/-- Another reader's step leaves a reader. -/
theorem RS.other {w w' : World} {r1 r2 : Nat} {v1 v2 v2' : Value} {s1 s2 : Ms} (h : RS w r1 v1 s1) (h2 : RS w r2 v2 s2) (hs : StpN w.heap.size w r2 v2 w' v2') (hne : r1 ≠ r2) (hf : Far v1 v2) : RS w' r1 v1 s1 := by
  obtain ⟨h0, q1, q2, q3, hb, ht, hv⟩ := h
  have keep : ∀ {k : Nat} {t : TypeId} {xs : Array Value}, Blk w k t xs → k ≠ r2 → (some k = room v2 → False) → Blk w' k t xs := fun hb hne hr => by
    unfold Blk at *
    rw [hs.block _ (Array.getElem?_eq_some_iff.1 hb).1 hne hr]; exact hb
  refine ⟨h0, q1, q2, q3, keep hb hne (fun e => ?_), ht, ?_⟩
  · obtain ⟨_, _, _, _, _, _, hv2⟩ := h2
    obtain ⟨cur, hc⟩ := hv2.blk r1 (room_own e.symm)
    exact hb.ne hc (by decide) rfl
  · rcases hv with hv | ⟨g, cap, cur, rfl, hc, hh⟩
    · exact .inl hv
    · refine .inr ⟨g, cap, cur, rfl, keep hc (fun e => ?_) (fun e => ?_), hh⟩
      · obtain ⟨_, _, _, _, hb2, _, _⟩ := h2
        exact (hc.ne hb2 (by decide)) e
      · rcases hf with hf | hf
        · cases hf
        · exact hf (by rw [room_own e.symm]; rfl)

/-- A reader's step leaves texts. -/
theorem Texts.other {w w' : World} {base r : Nat} {v v' p : Value} {s : Ms} {xs : List (List UInt8)} (h : Texts w base p xs) (h2 : RS w r v s) (hs : StpN w.heap.size w r v w' v') : Texts w' base p xs := by
  refine h.of_blk fun g hg => ?_
  obtain ⟨_, cur, hc⟩ := h.blk g hg
  refine hs.block g hc.lt (fun e => ?_) (fun e => ?_)
  · obtain ⟨_, _, _, _, hb, _, _⟩ := h2
    exact (hc.ne hb (by decide)) e
  · obtain ⟨_, _, _, _, _, _, hv2⟩ := h2
    obtain ⟨cur', hc'⟩ := hv2.blk g (room_own e.symm)
    exact (hc.ne hc' (by decide)) rfl

theorem Far.stp {n0 : Nat} {w w' : World} {r : Nat} {v v' u : Value} (h : Far u v) (hs : StpN n0 w r v w' v') (hlt : ∀ g, u.ownBlock = some g → g < n0) : Far u v' := far_stpN hs h hlt

/-- Bytes that came in with the call lie apart from what it made. -/
theorem apart_arg {W w : World} {b u v : Value} {bs c : List UInt8} {r : Nat} (hb : Bts W b bs) (hu : u.ownBlock = none ∨ u.ownBlock = b.ownBlock) (hc : c ≠ [] → bs ≠ []) (hw : W.heap.size ≤ w.heap.size) (hr : W.heap.size ≤ r) (hv : ∀ g, v.ownBlock = some g → W.heap.size ≤ g) : Apart c u v r w.heap.size := fun h => by
  have hlt := own_lt hb (hc h)
  rcases hu with hu | hu
  · exact ⟨fun g hg => (by rw [hu] at hg; cases hg), by rw [hu]; simp, .inl hu⟩
  · rw [hu]
    refine ⟨fun g hg => Nat.lt_of_lt_of_le (hlt g hg) hw, fun e => by have := hlt r e; omega, ?_⟩
    rcases hob : b.ownBlock with _ | g
    · exact .inl rfl
    · refine .inr fun e => ?_
      have := hlt g hob
      have := hv g e.symm
      omega

theorem cut_mid (u : Value) (w : World) (bs : List UInt8) (hu : Bts w u bs) (j k : Nat) (hj : j ≤ k) (hk : k ≤ bs.length) :
    ∃ a c, (∀ w, (Instr.slice 30 u (some (.int .i64 (j : Int))) (some (.int .i64 (k : Int))) none).run Try.prog w = .ok (.slice a (k - j) c) w) ∧ ((Value.slice a (k - j) c).ownBlock = none ∨ (Value.slice a (k - j) c).ownBlock = u.ownBlock) ∧ ∀ w, Bts w u bs → Bts w (.slice a (k - j) c) ((bs.take k).drop j) := by
  have hlen : ((bs.take k).drop j).length = k - j := by simp; omega
  rcases hu with ⟨rfl, rfl⟩ | ⟨b, o, c, rfl, h1, h2, h3⟩ | ⟨a, rfl, rfl⟩
  · obtain rfl : k = 0 := by simpa using hk
    obtain rfl : j = 0 := by omega
    refine ⟨none, 0, fun w => ?_, .inl rfl, fun w _ => Bts.nil w⟩
    simp [Instr.slice, Instr.sliceBounds, Instr.sliceBound, run_underlying und22, siz5, asIntOf, go_sem]
  · have hkc : ¬ c < k := by omega
    have hjk : ¬ k < j := by omega
    by_cases hc : c = j
    · subst hc
      obtain rfl : k = c := by omega
      refine ⟨some ⟨b, o, none⟩, 0, fun w => ?_, .inr rfl, fun w hw => .inr (.inr ⟨⟨b, o, none⟩, by rw [Nat.sub_self], List.eq_nil_of_length_eq_zero (by omega)⟩)⟩
      simp [Instr.slice, Instr.sliceBounds, Instr.sliceBound, run_underlying und22, siz5, asIntOf, go_sem]
    · refine ⟨some ⟨b, o + j, none⟩, c - j, fun w => ?_, .inr rfl, fun w hw => ?_⟩
      · have h4 : k ≤ c := by omega
        simp [Instr.slice, Instr.sliceBounds, Instr.sliceBound, run_underlying und22, siz5, asIntOf, go_sem, hc]
        rw [if_pos h4, if_pos hj]
      · by_cases h0 : bs.length = 0
        · exact .inr (.inl ⟨b, o + j, c - j, by rw [hlen], by rw [hlen]; omega, by omega, fun i hi => by omega⟩)
        · obtain ⟨b', o', c', e, hcell, _⟩ := hw.at (by omega)
          cases e
          exact .inr (.inl ⟨b, o + j, c - j, by rw [hlen], by rw [hlen]; omega, by omega, (hcell.take k).drop j⟩)
  · obtain rfl : k = 0 := by simpa using hk
    obtain rfl : j = 0 := by omega
    refine ⟨some a, 0, fun w => ?_, .inr rfl, fun w _ => .inr (.inr ⟨a, rfl, by simp⟩)⟩
    simp [Instr.slice, Instr.sliceBounds, Instr.sliceBound, run_underlying und22, siz5, asIntOf, go_sem, Addr.add]

/-- The error of a Feed. -/
def code (s : Ms) : Int := if s.shut = true then 40 else 0

theorem Fed.any {w : World} {r : Nat} {v : Value} {s : Ms} {c : List UInt8} {e : Ending} {w' : World} (h : Fed w r v s c e w') :
    ∃ v' a k, e = .returned (.tuple #[.slice a (s.run c).2.length k, .int .i64 (code (s.run c).1)]) ∧ RS w' r v' (s.run c).1 ∧ StpN w.heap.size w r v w' v' ∧ Texts w' w.heap.size (.slice a (s.run c).2.length k) (s.run c).2 := h.of rfl
end Go.Proofs.Ytahmpgaohjopeaa
