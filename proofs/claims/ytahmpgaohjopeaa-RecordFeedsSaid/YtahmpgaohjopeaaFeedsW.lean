/- RecordFeeds, walked: a round. -/
import Derived.Test.YtahmpgaohjopeaaBrows
namespace Go.Proofs.Ytahmpgaohjopeaa
open Go.RowKit

/-- A copy stays, whatever its reader does. -/
theorem RS.copy {w w' : World} {r r2 : Nat} {v v' v2 : Value} {s : Ms} (h : RS w r v s) (h2 : RS w r2 v2 s) (hs : StpN w.heap.size w r v w' v') (hne : r2 ≠ r) (ho : v2.ownBlock = v.ownBlock) : RS w' r2 v2 s := by
  obtain ⟨h0, q1, q2, q3, hb, ht, hv⟩ := h2
  have hvr := h.lt
  obtain ⟨_, _, _, _, hbr, _, hvv⟩ := h
  refine ⟨h0, q1, q2, q3, ?_, ht, ?_⟩
  · have e := hs.block r2 hb.lt hne (fun e => by
      obtain ⟨cur, hc⟩ := hvv.blk r2 (room_own e.symm)
      exact hb.ne hc (by decide) rfl)
    unfold Blk at *
    rw [e]; exact hb
  · rcases hv with hv | ⟨g, cap, cur, rfl, hc, k1, k2, k3, k4⟩
    · exact .inl hv
    · have hg : v.ownBlock = some g := ho.symm
      by_cases hrm : room v = some g
      · obtain ⟨cur', hc', hsz⟩ := hs.there g cur hrm hc.lt hc
        obtain ⟨a, c, rfl⟩ := hvv.len
        refine .inr ⟨g, cap, cur', rfl, hc', k1, k2, by omega, ?_⟩
        apply List.ext_getElem?
        intro i
        by_cases hi : i < s.body.length
        · have h5 := hs.cells g hrm hc.lt i hi
          have h6 : w.cell? ⟨g, i, none⟩ = some cur[i] := hc.cell (Array.getElem?_eq_getElem (by omega))
          have h7 : w'.cell? ⟨g, i, none⟩ = some cur'[i] := hc'.cell (Array.getElem?_eq_getElem (by omega))
          have h8 : cur'[i] = cur[i] := by rw [h7, h6] at h5; exact Option.some.inj h5
          have h9 := congrArg (·[i]?) k4
          simp only [List.getElem?_take_of_lt hi, Array.getElem?_toList] at h9 ⊢
          rw [Array.getElem?_eq_getElem (by omega : i < cur'.size), h8, ← Array.getElem?_eq_getElem (by omega : i < cur.size)]
          exact h9
        · rw [List.getElem?_eq_none (by simp; omega), List.getElem?_eq_none (by simp; omega)]
      · refine .inr ⟨g, cap, cur, rfl, ?_, k1, k2, k3, k4⟩
        have e := hs.block g hc.lt (hvr g hg).2 (fun e => hrm e.symm)
        unfold Blk at *
        rw [e]; exact hc

/-- A copy's step leaves its reader. -/
theorem RS.uncopy {w w' : World} {r r2 : Nat} {v v2 v2' : Value} {s s2 : Ms} (h : RS w r v s) (h2 : RS w r2 v2 s2) (hs : StpN w.heap.size w r2 v2 w' v2') (hne : r ≠ r2) (hr : ∀ g, v.ownBlock = some g → room v2 ≠ some g) : RS w' r v s := by
  obtain ⟨h0, q1, q2, q3, hb, ht, hv⟩ := h
  refine ⟨h0, q1, q2, q3, ?_, ht, ?_⟩
  · have e := hs.block r hb.lt hne (fun e => by
      obtain ⟨_, _, _, _, _, _, hv2⟩ := h2
      obtain ⟨cur, hc⟩ := hv2.blk r (room_own e.symm)
      exact hb.ne hc (by decide) rfl)
    unfold Blk at *
    rw [e]; exact hb
  · rcases hv with hv | ⟨g, cap, cur, rfl, hc, hh⟩
    · exact .inl hv
    · refine .inr ⟨g, cap, cur, rfl, ?_, hh⟩
      have e := hs.block g hc.lt (fun e => by
        obtain ⟨_, _, _, _, hb2, _, _⟩ := h2
        exact (hc.ne hb2 (by decide)) e) (fun e => hr g rfl e.symm)
      unfold Blk at *
      rw [e]; exact hc

/-- A block of a type of its own stays, whatever a reader does. -/
theorem Blk.stp {w w' : World} {r k : Nat} {v v' : Value} {s : Ms} {t : TypeId} {xs : Array Value} (h : Blk w k t xs) (hr : RS w r v s) (hs : StpN w.heap.size w r v w' v') (h1 : t ≠ 48) (h2 : t ≠ 5) : Blk w' k t xs := by
  obtain ⟨_, _, _, _, hb, _, hv⟩ := hr
  have e := hs.block k h.lt (fun e => by
    subst e
    exact (Blk.ne h hb h1) rfl) (fun e => by
    obtain ⟨cur, hc⟩ := hv.blk k (room_own e.symm)
    exact (Blk.ne h hc h2) rfl)
  unfold Blk at *
  rw [e]; exact h

/-- A reader stays, if a block of another type, or apart, is turned. -/
theorem RS.row2 {w w' : World} {r x : Nat} {v : Value} {s : Ms} {t : TypeId} {xs : Array Value} (h : RS w r v s) (hx : Blk w x t xs) (hg : w.grownBy w' (some x)) (h1 : t ≠ 48) (h2 : t ≠ 5 ∨ v.ownBlock ≠ some x) : RS w' r v s := by
  obtain ⟨h0, q1, q2, q3, hb, ht, hv⟩ := h
  refine ⟨h0, q1, q2, q3, hb.kept hg (fun e => ?_), ht, hv.kept hg ?_⟩
  · cases e
    exact (Blk.ne hx hb h1) rfl
  · rcases hob : v.ownBlock with _ | g
    · exact .inl rfl
    · refine .inr fun e => ?_
      obtain rfl : g = x := Option.some.inj e
      rcases h2 with h2 | h2
      · obtain ⟨cur, hc⟩ := hv.blk g hob
        exact (Blk.ne hx hc h2) rfl
      · exact h2 hob


/-- What the document's reader knows of what was handed in. -/
structure Knows (all pre : List UInt8) (n : Nat) : Prop where
  st : (Ms.new.run all).1 = (Ms.new.run pre).1
  n : n = (Ms.new.run all).2.length
  same : (Ms.new.run pre).1.shut = false → all = pre
  len : all.length ≤ 9000

/-- What the document's Feed leaves, whether it was shut or not. -/
def RefU (w : World) (x : Nat) (pre c : List UInt8) (e : Ending) (w' : World) : Prop :=
  ∃ a k all n, e = .returned (.tuple #[.slice a ((Ms.new.run pre).1.run c).2.length k, .int .i64 (code ((Ms.new.run pre).1.run c).1)]) ∧ RefR w' x all n ((Ms.new.run pre).1.run c).1.shut ∧ Knows all (pre ++ c) n ∧
    Strs w' (.slice a ((Ms.new.run pre).1.run c).2.length k) ((Ms.new.run pre).1.run c).2 ∧ w.grownBy w' (some x) ∧ (∀ g, (Value.slice a ((Ms.new.run pre).1.run c).2.length k).ownBlock = some g → w.heap.size ≤ g)

theorem ref_feed_any (x n : Nat) (all pre c : List UInt8) (u : Value) (w : World) (h : RefR w x all n (Ms.new.run pre).1.shut) (hk : Knows all pre n) (hu : Bts w u c) (hl : (pre ++ c).length ≤ 9000) :
    Calls Try.prog 13 #[.pointer (some ⟨x, 0, none⟩), u] w (RefU w x pre c) := by
  have hrn : Ms.new.run (pre ++ c) = (((Ms.new.run pre).1.run c).1, (Ms.new.run pre).2 ++ ((Ms.new.run pre).1.run c).2) := Ms.run_append _ _ _
  by_cases hs : (Ms.new.run pre).1.shut = true
  · rw [hs] at h
    have hsh := Ms.run_shut _ c hs
    rw [hsh] at hrn
    refine (ref_feed_shut x n all c u w h hu).mono ?_
    rintro e w' ⟨rfl, rfl⟩
    unfold RefU
    rw [hsh]
    refine ⟨none, 0, all, n, ?_, by rw [hs]; exact h, ⟨by rw [hrn]; exact hk.st, hk.n, fun h2 => ?_, hk.len⟩, .inl ⟨rfl, rfl⟩, World.grownBy.refl _ _, fun g hg => by cases hg⟩
    · unfold code
      rw [if_pos hs]
      rfl
    · rw [hrn] at h2
      rw [hs] at h2
      cases h2
  · have hs' : (Ms.new.run pre).1.shut = false := by simpa using hs
    rw [hs'] at h
    obtain rfl := hk.same hs'
    have hn := hk.n
    have hcnt : n ≤ (Ms.new.run (all ++ c)).2.length := by rw [hrn, hn]; simp
    refine (ref_feed x n all c u w h hu (by omega) hcnt).mono ?_
    rintro e w' ⟨a, k, rfl, h1, h2, h3, h4⟩
    have e1 : (Ms.new.run (all ++ c)).2.drop n = ((Ms.new.run all).1.run c).2 := by rw [hrn, hn]; simp
    have e2 : (Ms.new.run (all ++ c)).2.length - n = ((Ms.new.run all).1.run c).2.length := by rw [← e1, List.length_drop]
    have e3 : (Ms.new.run (all ++ c)).1 = ((Ms.new.run all).1.run c).1 := by rw [hrn]
    unfold RefU
    rw [e1, e2] at h2
    rw [e2] at h4
    rw [e2, ← e3]
    exact ⟨a, k, all ++ c, _, rfl, h1, ⟨rfl, rfl, fun _ => rfl, hl⟩, h2, h3, h4⟩

theorem Own.of_blk {w w' : World} {base : Nat} {v : Value} {bs : List UInt8} (h : Own w base v bs) (hb : ∀ g, v.ownBlock = some g → w'.heap[g]? = w.heap[g]?) : Own w' base v bs := by
  obtain ⟨h0, h1 | ⟨g, cap, cur, rfl, h1, h2, h3⟩⟩ := h
  · exact ⟨h0, .inl h1⟩
  · exact ⟨h0, .inr ⟨g, cap, cur, rfl, h1, (hb g rfl).trans h2, h3⟩⟩

theorem Own.stp {w w' : World} {base r : Nat} {v v' u : Value} {bs : List UInt8} (h : Own w base u bs) (hs : StpN w.heap.size w r v w' v') (h1 : u.ownBlock ≠ some r) (h2 : Far u v) : Own w' base u bs :=
  h.of_blk fun g hg => hs.block g (h.lt g hg).2 (fun e => h1 (by rw [hg, e])) (fun e => by
    rcases h2 with h2 | h2
    · rw [hg] at h2; cases h2
    · exact h2 (by rw [hg, room_own e.symm]))

theorem Own.blk8 {w : World} {base : Nat} {u : Value} {bs : List UInt8} (h : Own w base u bs) : ∀ g, u.ownBlock = some g → ∃ cur, Blk w g 5 cur := by
  obtain ⟨_, ⟨rfl, _⟩ | ⟨g, cap, cur, rfl, h1, h2, _⟩⟩ := h
  · intro g hg; cases hg
  · intro g' hg'; cases hg'; exact ⟨cur, h2⟩

theorem Own.row2 {w w' : World} {base x : Nat} {u : Value} {bs : List UInt8} {t : TypeId} {xs : Array Value} (h : Own w base u bs) (hx : Blk w x t xs) (hg : w.grownBy w' (some x)) (ht : t ≠ 5) : Own w' base u bs :=
  h.of_blk fun g hg' => by
    obtain ⟨cur, hc⟩ := h.blk8 g hg'
    exact hg.block g hc.lt (fun e => by cases e; exact (Blk.ne hx hc ht) rfl)

theorem Texts.row2 {w w' : World} {base x : Nat} {u : Value} {ys : List (List UInt8)} {t : TypeId} {xs : Array Value} (h : Texts w base u ys) (hx : Blk w x t xs) (hg : w.grownBy w' (some x)) (ht : t ≠ 9) : Texts w' base u ys :=
  h.of_blk fun g hg' => by
    obtain ⟨_, cur, hc⟩ := h.blk g hg'
    exact hg.block g hc.lt (fun e => by cases e; exact (Blk.ne hx hc ht) rfl)

theorem Strs.stp {w w' : World} {r : Nat} {v v' u : Value} {ys : List (List UInt8)} (h : Strs w u ys) (hs : StpN w.heap.size w r v w' v') (h1 : u.ownBlock ≠ some r) (h2 : Far u v) : Strs w' u ys := by
  rcases h with h | ⟨b, o, c, rfl, q1, q2, q3⟩ | h
  · exact .inl h
  · refine .inr (.inl ⟨b, o, c, rfl, q1, q2, fun i hi => ?_⟩)
    have hlt := World.block_lt_of_cell? w _ (q3 i hi)
    have e := hs.block b hlt (by simpa [Value.ownBlock] using h1) (fun e => by
      rcases h2 with h2 | h2
      · simp [Value.ownBlock] at h2
      · exact h2 (room_own e.symm).symm)
    rw [World.cell?_of_block (a := ⟨b, o + i, none⟩) e]
    exact q3 i hi
  · exact .inr (.inr h)
end Go.Proofs.Ytahmpgaohjopeaa
