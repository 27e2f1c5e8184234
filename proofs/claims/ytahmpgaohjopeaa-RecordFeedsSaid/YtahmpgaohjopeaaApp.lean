/- append to a record's bytes: in place where there is room, else anew. -/
import Derived.Test.YtahmpgaohjopeaaCopy
namespace Go.Proofs.Ytahmpgaohjopeaa
open Go.RowKit

/-- Where the bytes lie: where they lay, nowhere, or in new memory. -/
def From (w : World) (v v' : Value) : Prop := v'.ownBlock = none ∨ v'.ownBlock = v.ownBlock ∨ ∀ g, v'.ownBlock = some g → w.heap.size ≤ g

theorem From.refl (w : World) (v : Value) : From w v v := .inr (.inl rfl)
theorem From.nil (w : World) (v : Value) : From w v (.slice none 0 0) := .inl rfl
theorem From.trans {w w1 : World} {v v1 v2 : Value} (h : From w v v1) (k : From w1 v1 v2) (hs : w.heap.size ≤ w1.heap.size) : From w v v2 := by
  rcases k with k | k | k
  · exact .inl k
  · rcases h with h | h | h
    · exact .inl (k.trans h)
    · exact .inr (.inl (k.trans h))
    · exact .inr (.inr fun g hg => h g (k ▸ hg))
  · exact .inr (.inr fun g hg => Nat.le_trans hs (k g hg))

/-- What an append keeps. -/
structure AKept (w w' : World) (v v' : Value) : Prop where
  os : w'.os = w.os
  tape : w'.tape = w.tape
  output : w'.output = w.output
  size : w.heap.size ≤ w'.heap.size
  block : ∀ k < w.heap.size, some k ≠ room v → w'.heap[k]? = w.heap[k]?
  cells : ∀ g, room v = some g → ∀ i < vlen v, w'.cell? ⟨g, i, none⟩ = w.cell? ⟨g, i, none⟩
  there : ∀ g cur, room v = some g → Blk w g 5 cur → ∃ cur', Blk w' g 5 cur' ∧ cur.size ≤ cur'.size
  next : Next w v v'
  frm : From w v v'

theorem AKept.refl (w : World) (v : Value) : AKept w w v v := ⟨rfl, rfl, rfl, Nat.le_refl _, fun _ _ _ => rfl, fun _ _ _ _ => rfl, fun _ cur _ hb => ⟨cur, hb, Nat.le_refl _⟩, Next.refl w v, From.refl w v⟩

theorem AKept.drew {w w' : World} {v v' : Value} (h : AKept w.drew w' v v') : AKept w w' v v' := ⟨h.os, h.tape, h.output, h.size, h.block, h.cells, h.there, h.next, h.frm⟩

theorem AKept.kept {w w' : World} {v v' : Value} (h : AKept w w' v v') {r : Nat} (hlt : ∀ g, room v = some g → g < w.heap.size ∧ g ≠ r) : Kept w w' r v :=
  ⟨h.os, h.tape, h.output, h.size, fun k hk _ hne => h.block k hk hne, h.cells, h.there, hlt⟩

theorem new_body (w : World) (bs : List UInt8) (cap : Nat) (z : Array Value) (h1 : bs.length ≤ cap) (h2 : cap ≤ maxLen) (h3 : cap ≤ bs.length + z.size) :
    Body (w.alloc (.cells ((bs.map u8v).toArray ++ z) 5)) (.slice (some ⟨w.heap.size, 0, none⟩) bs.length cap) bs :=
  .inr ⟨w.heap.size, cap, _, rfl, Blk.made _ _ _, h1, h2, by simpa using h3, by simp⟩

theorem new_akept (w : World) (o : Obj) (v : Value) (n c : Nat) (hlt : ∀ g, room v = some g → g < w.heap.size) : AKept w (w.drew.alloc o) v (.slice (some ⟨w.heap.size, 0, none⟩) n c) := by
  refine ⟨rfl, rfl, rfl, by simp, fun k hk _ => (World.grownBy_alloc w.drew o none).block k hk (by simp), fun g hg i hi => ?_, fun g cur hg hb => ⟨cur, Blk.new (w := w.drew) hb (World.grownBy_alloc w.drew o none), Nat.le_refl _⟩, .inr (.inr fun g hg => ?_), .inr (.inr fun g hg => ?_)⟩
  · exact World.cell?_of_block (a := ⟨g, i, none⟩) ((World.grownBy_alloc w.drew o none).block g (hlt g hg) (by simp))
  · have := room_own hg; cases this; exact Nat.le_refl _
  · cases hg; exact Nat.le_refl _

theorem run_append_body (w : World) (v u : Value) (bs xs : List UInt8) (hv : Body w v bs) (hu : Bts w u xs) (hn : bs.length + xs.length ≤ 140737488355328) (ty : TypeId) :
    ∃ v' w', (Builtin.append_ #[30, 30] ty #[v, u]).run Try.prog w = .ok v' w' ∧ Body w' v' (bs ++ xs) ∧ AKept w w' v v' := by
  obtain ⟨i, hi, hz0, hz1, hz2⟩ := info_parts inf5
  by_cases hx : xs = []
  · subst hx
    rw [List.append_nil]
    refine ⟨v, w, ?_, hv, AKept.refl w v⟩
    have hu0 : ∃ a c, u = .slice a 0 c := by
      obtain ⟨a, c, h, _⟩ := hu.form
      exact ⟨a, c, h⟩
    obtain ⟨a, c, rfl⟩ := hu0
    have hf : (Builtin.firstCells 1 0 (.slice a 0 c)).run Try.prog w = .ok #[] w := by
      rcases a with _ | a
      · exact run_firstCells_none w 1 0 0 c
      · exact run_firstCells_some w 1 0 a 0 c [] rfl (by simp)
    rcases hv with ⟨rfl, rfl⟩ | ⟨g, cap, cur, rfl, hb, h1, h2, h3, h4⟩
    · simp [Builtin.append_, run_underlying und22, sizeOf, typeInfo, hi, hz1, Builtin.lenOf, hf]
    · simp [Builtin.append_, run_underlying und22, sizeOf, typeInfo, hi, hz1, Builtin.lenOf, hf, h1, storeCells]
  · have hpos : 0 < xs.length := by cases xs with
      | nil => exact absurd rfl hx
      | cons x l => simp
    obtain ⟨b, off, c, rfl, hcell, _, _⟩ := hu.at hpos
    have hnews : ∀ j y, (xs.map u8v)[j]? = some y → w.cell? ((⟨b, off, none⟩ : Addr).add j) = some y := fun j y hj => by
      rw [List.getElem?_map, Option.map_eq_some_iff] at hj
      obtain ⟨y, hy, rfl⟩ := hj
      obtain ⟨hj, rfl⟩ := List.getElem?_eq_some_iff.1 hy
      rw [Addr.add_mid]
      exact hcell j hj
    have hm : ∀ k, grownCap w (bs.length + xs.length) k 5 ≤ maxLen := fun k => grownCap_le_maxLen w _ _ _ (by unfold maxLen; omega)
    rcases hv with ⟨rfl, rfl⟩ | ⟨g, cap, cur, rfl, hb, h1, h2, h3, h4⟩
    · have hr := run_append_nil (P := Try.prog) w 30 ty 5 i _ und22 hi hz0 ⟨b, off, none⟩ xs.length c (xs.map u8v) (by simp [hz1]) hnews hpos (by omega) (by rw [hz2]; simp at hn; omega)
      refine ⟨_, _, hr, ?_, new_akept _ _ _ _ _ (fun g hg => by cases hg)⟩
      have hge := grownCap_ge w xs.length 0 5
      rw [List.nil_append]
      refine new_body w.drew xs _ _ hge (by have := hm 0; simpa using this) ?_
      rw [size_zeroCells]
      simp [Value.cells]
      omega
    · have hlb : (bs.map u8v).length = bs.length := by simp
      by_cases hroom : bs.length + xs.length ≤ cap
      · have hr := run_append_room (P := Try.prog) w 30 ty 5 i und22 hi g bs.length cap cur hb ⟨b, off, none⟩ xs.length c (xs.map u8v) (by simp [hz1]) hnews (u8v_cell xs) hroom (by simp [hz1]; omega)
        rw [hz1, Nat.mul_one, List.length_map] at hr
        have hrm : room (.slice (some ⟨g, 0, none⟩) bs.length cap) = some g := by unfold room; simp; omega
        have hB : Blk (w.setRow g (cur.toList.take bs.length ++ xs.map u8v ++ cur.toList.drop (bs.length + xs.length)).toArray) g 5 (cur.toList.take bs.length ++ xs.map u8v ++ cur.toList.drop (bs.length + xs.length)).toArray := setRow_heap w g cur _ _ _ hb
        refine ⟨_, _, hr, .inr ⟨g, cap, _, by rw [List.length_append], hB, by rw [List.length_append]; exact hroom, h2, ?_, ?_⟩, ⟨rfl, rfl, rfl, by simp, fun k _ hk => setRow_other w g k _ (fun e => hk (by rw [hrm, e])), ?_, ?_, ?_, .inr (.inl rfl)⟩⟩
        · simp; omega
        · rw [h4, List.length_append, List.map_append]
          exact List.take_left' (by simp)
        · intro g' hg' j hj
          rw [hrm] at hg'; cases hg'
          have hj' : j < bs.length := hj
          have hjc : j < cur.size := by omega
          rw [hb.cell (i := j) (Array.getElem?_eq_getElem hjc)]
          refine hB.cell ?_
          simp [List.getElem?_append, hj', hjc]
          omega
        · intro g' cur' hg' hb'
          rw [hrm] at hg'; cases hg'
          refine ⟨_, hB, ?_⟩
          unfold Blk at hb hb'
          rw [hb] at hb'; cases hb'
          simp
          omega
        · unfold Next
          by_cases e : bs.length + xs.length < cap
          · exact .inr (.inl ⟨by simp [room, e]; omega, by simp [vlen]⟩)
          · exact .inl (by simp [room]; omega)
      · have holds : ∀ j y, (bs.map u8v)[j]? = some y → w.cell? ((⟨g, 0, none⟩ : Addr).add j) = some y := fun j y hj => by
          rw [List.getElem?_map, Option.map_eq_some_iff] at hj
          obtain ⟨y, hy, rfl⟩ := hj
          obtain ⟨hj, rfl⟩ := List.getElem?_eq_some_iff.1 hy
          rw [Addr.add_mid]
          exact (Body.cells (.inr ⟨g, cap, cur, rfl, hb, h1, h2, h3, h4⟩)) j hj
        have hr := run_append_grow (P := Try.prog) w 30 ty 5 i _ und22 hi hz0 ⟨g, 0, none⟩ bs.length cap (bs.map u8v) (by simp [hz1]) holds ⟨b, off, none⟩ xs.length c (xs.map u8v) (by simp [hz1]) hnews (by omega) (by omega) (growslice_fits (by omega) (by rw [hz2]; omega))
        refine ⟨_, _, hr, ?_, new_akept _ _ _ _ _ (fun g' hg' => by have := room_own hg'; cases this; exact hb.lt)⟩
        have hge := grownCap_ge w (bs.length + xs.length) cap 5
        have hnb := new_body w.drew (bs ++ xs) (grownCap w (bs.length + xs.length) cap 5) (Builtin.zeroCells (Value.int IntKind.u8 0).cells (grownCap w (bs.length + xs.length) cap 5 - (bs.length + xs.length))) (by rw [List.length_append]; exact hge) (hm cap) (by rw [size_zeroCells, List.length_append]; simp [Value.cells]; omega)
        rw [List.length_append, List.map_append] at hnb
        simpa using hnb
end Go.Proofs.Ytahmpgaohjopeaa
