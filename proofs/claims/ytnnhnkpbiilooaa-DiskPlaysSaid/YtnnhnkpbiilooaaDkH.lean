/- disk: what is forgotten; maps and rows cloned, maps laid into one another. -/
import Derived.Test.YtnnhnkpbiilooaaDkG
namespace Go.Proofs.Ytnnhnkpbiilooaa
open Go.RowKit Go.Maps

theorem Blk.setG {w : World} {r : Nat} {t : TypeId} {xs : Array Value} (h : Blk w r t xs) (i : Nat) (u : Value) : w.grownBy (w.setCell ⟨r, i, none⟩ u) (some r) := by
  have := setCell_eq_setRow w r i xs t (0, 0) u h
  rw [this]
  exact ⟨rfl, rfl, rfl, by simp, fun k _ hk => setRow_other w r k _ (fun e => hk (by rw [e]))⟩

/-- What forget leaves. -/
def Forgets (w : World) (p : Nat) (x0 x1 x4 x5 x6 : Value) (e : Ending) (w' : World) : Prop :=
  ∃ m, e = .returned (.tuple #[]) ∧ Blk w' p 63 #[x0, x1, .slice none 0 0, .map (some m), x4, x5, x6] ∧ Mp w' m 0 no ∧ Kept (· = p) w w' ∧ w.heap.size ≤ m

set_option maxRecDepth 20000 in
set_option maxHeartbeats 400000 in
theorem forget_any {w : World} {p : Nat} {x0 x1 x2 x3 x4 x5 x6 : Value} (h : Blk w p 63 #[x0, x1, x2, x3, x4, x5, x6]) (a2 : Option Addr) (n2 c2 : Nat) (hx2 : x2 = .slice a2 n2 c2) (a3 : Option Nat) (hx3 : x3 = .map a3) :
    Calls Try.prog 38 #[dptr p] w (Forgets w p x0 x1 x4 x5 x6) := by
  subst hx2 hx3
  have hM := Mp.made w
  have hG := World.grownBy_alloc w (.map #[] 0) none
  have hB := h.new hG
  have hge : w.heap.size < (w.alloc (.map #[] 0)).heap.size := by simp
  have hne : p ≠ w.heap.size := by have := h.lt; omega
  have hmm := @run_makeMap Try.prog
  generalize hW : w.alloc (.map #[] 0) = W at *
  generalize hm0 : w.heap.size = m at *
  have HW := Lib.hid hW
  have HM0 := Lib.hid hm0
  have HB := Lib.hid hB
  have HB2 := Lib.hid (hB.set 2 (.slice none 0 0))
  have e2 : (#[x0, x1, .slice a2 n2 c2, .map a3, x4, x5, x6] : Array Value).setIfInBounds 2 (.slice none 0 0) = #[x0, x1, .slice none 0 0, .map a3, x4, x5, x6] := rfl
  rw [e2] at HB2
  have k2 := hB.cell (i := 2) (x := .slice a2 n2 c2) rfl
  have f2 := hB.frozen 2
  have k3 := HB2.out.cell (i := 3) (x := .map a3) rfl
  have f3 := HB2.out.frozen 3
  have HMK : Hid (∀ (t k e : TypeId), Try.prog.underlying t = some (.map k e) → (Instr.makeMap t none).run Try.prog w = .ok (.map (some m)) W) := Lib.hid (by
    intro t k e ht
    rw [← hW, ← hm0]
    simp [Instr.makeMap, run_underlying ht, go_sem, Result.andThen])
  have HM := Lib.hid hM
  have HG := Lib.hid hG
  have HNE := Lib.hid hne
  have HGE : Hid (m < W.heap.size) := Lib.hid hge
  have hmk := HMK.out _ _ _ undM
  have HK2 := Lib.hid k2
  clear hW hm0 hM hG hB hne hmm e2 hge
  unfold dptr
  go_enter Try.func38, Try.ntmps38
  go_wp2_with fail
  go_end0
  have G1 : Kept (· = p) W _ := Kept.of (HB.out.setG 2 (.slice none 0 0)) (fun k e => .inl (by cases e; rfl))
  have G2 : Kept (· = p) _ _ := Kept.of (HB2.out.setG 3 (.map (some m))) (fun k e => .inl (by cases e; rfl))
  have G := G1.trans G2
  exact ⟨m, rfl, HB2.out.set 3 (.map (some m)), G.mp HM.out (fun e => HNE.out e.symm), (Kept.new HG.out).trans G, Nat.le_of_eq HM0.out⟩

theorem undBo : Try.prog.underlying 4 = some .bool := by kernel_rfl
theorem undBs : Try.prog.underlying 38 = some (.slice 4) := by kernel_rfl
theorem infBo : (Try.prog.info? 4).map (fun i => (i.zero, i.size, i.bytes)) = some (some (.bool false), 1, 1) := by kernel_rfl

/-- Yes and no, in new memory. -/
def NewBls (w : World) (ks : List Bool) (e : Ending) (w' : World) : Prop := ∃ v, e = .returned v ∧ BlsT w' v ks ∧ w.grownBy w' none ∧ (∀ k, v.ownBlock = some k → w.heap.size ≤ k) ∧ ∃ a n c, v = .slice a n c

theorem bool_one (ks : List Bool) : ∀ u ∈ ks.map Value.bool, u.oneCell' = true := by
  intro u hu
  obtain ⟨x, _, rfl⟩ := List.mem_map.1 hu
  rfl
theorem Elems.at1 {w : World} {g o c n : Nat} {size : Nat} {cell : Nat → Value} (h : Elems w (.slice (some ⟨g, o, none⟩) n c) size n cell) (i : Nat) (hi : i < n * size) : w.cell? ⟨g, o + i, none⟩ = some (cell i) := by
  rcases h with ⟨h, _⟩ | ⟨b, o', c', h, _, _, h3⟩ | ⟨a, h, rfl⟩
  · cases h
  · cases h; exact h3 i hi
  · simp at hi

theorem Bls.keepNew {w w' : World} {v : Value} {ks : List Bool} (h : Bls w v ks) (hg : w.grownBy w' none) : Bls w' v ks := (Kept.new (S := fun _ => False) hg).elems h (fun _ _ h => h)
/-- append(empty, ks...). -/
theorem Bls.append {w : World} {v : Value} {ks : List Bool} (h : Bls w v ks) (hl : ks.length ≤ 140737488355328) {r : Nat} (hr : Blk w r 4 #[]) (ty : TypeId) :
    ∃ v' w', (Builtin.append_ #[38, 38] ty #[.slice (some ⟨r, 0, none⟩) 0 0, v]).run Try.prog w = .ok v' w' ∧ BlsT w' v' ks ∧ w.grownBy w' (some r) ∧ (∀ k, v'.ownBlock = some k → k = r ∨ w.heap.size ≤ k) ∧ ∃ a n c, v' = .slice a n c := by
  obtain ⟨i, hi, hz, hs, hy⟩ := info_parts infBo
  have hown : w.ownsRow 0 4 1 (.slice (some ⟨r, 0, none⟩) 0 0) 0 [] := ⟨by simp, .inr ⟨r, 0, #[], rfl, Nat.zero_le _, hr, Nat.le_refl _, by unfold maxLen; omega, by simp, by simp⟩⟩
  have done : ∀ (a : Option Addr) (c : Nat), ks = [] → v = .slice a 0 c → ∃ v' w', (Builtin.append_ #[38, 38] ty #[.slice (some ⟨r, 0, none⟩) 0 0, v]).run Try.prog w = .ok v' w' ∧ BlsT w' v' ks ∧ w.grownBy w' (some r) ∧ (∀ k, v'.ownBlock = some k → k = r ∨ w.heap.size ≤ k) ∧ ∃ a n c, v' = .slice a n c := by
    intro a c hk hv
    subst hk hv
    have hf : (Builtin.firstCells 1 0 (.slice a 0 c)).run Try.prog w = .ok #[] w := by
      rcases a with _ | a
      · exact run_firstCells_none w 1 0 0 c
      · exact run_firstCells_some w 1 0 a 0 c [] rfl (by simp)
    refine ⟨.slice (some ⟨r, 0, none⟩) 0 0, w, ?_, hown, World.grownBy.refl _ _, fun k hk => .inl (by cases hk; rfl), ⟨_, _, _, rfl⟩⟩
    simp [Builtin.append_, run_underlying undBs, sizeOf, typeInfo, hi, hs, Builtin.lenOf, hf, storeCells]
  rcases h with ⟨rfl, h2⟩ | ⟨b, o, c, rfl, h1, h2, h3⟩ | ⟨a, rfl, h2⟩
  · exact done none 0 (List.eq_nil_of_length_eq_zero h2) rfl
  · have hlt := hr.lt
    obtain ⟨v', w', k1, k2, k3, _, k5⟩ := run_append_own_at (P := Try.prog) w 0 38 ty 4 i _ 1 1 undBs hi hz hs hy rfl (by omega) _ 0 [] hown ⟨b, o, none⟩ ks.length c (ks.map Value.bool) (by simp)
      (fun j u hj => by
        rw [List.getElem?_map, Option.map_eq_some_iff] at hj
        obtain ⟨x, hx, rfl⟩ := hj
        have hj : j < ks.length := (List.getElem?_eq_some_iff.1 hx).1
        rw [Addr.add_mid, h3 j (by omega)]
        simp [List.getD, hx]) (bool_one ks) (by unfold maxLen; omega) (by omega) (Nat.zero_le _)
    have hrow : BlsT w' v' ks := by simpa [BlsT] using k2
    refine ⟨v', w', k1, hrow, k3, fun k hk => ?_, ?_⟩
    · rcases k5 with k5 | k5
      · rw [k5] at hk; cases hk; exact .inl rfl
      · rw [k5] at hk; cases hk; exact .inr (Nat.le_refl _)
    obtain ⟨_, ⟨rfl, _⟩ | ⟨g, cap, cur, rfl, _⟩⟩ := hrow
    · exact ⟨_, _, _, rfl⟩
    · exact ⟨_, _, _, rfl⟩
  · exact done (some a) 0 (List.eq_nil_of_length_eq_zero h2) rfl

theorem Bls.shape {w : World} {v : Value} {ks : List Bool} (h : Bls w v ks) : ∃ a c, v = .slice a ks.length c ∧ ks.length ≤ maxLen := by
  obtain ⟨a, c, h1, h2⟩ := Elems.form h
  exact ⟨a, c, h1, h2⟩
theorem run_noneBs (w : World) : (Instr.buildSlice 38 0 #[]).run Try.prog w = .ok (.slice (some ⟨w.heap.size, 0, none⟩) 0 0) (w.alloc (.cells #[] 4)) := by
  obtain ⟨i, hi, _, _, _⟩ := info_parts infBo
  exact run_slice_none undBs hi w

set_option maxRecDepth 20000 in
set_option maxHeartbeats 400000 in
theorem cloneBs_any {w : World} {v : Value} {ks : List Bool} (h : Bls w v ks) (hl : ks.length ≤ 140737488355328) : Calls Try.prog 36 #[v] w (NewBls w ks) := by
  have h0 := h
  obtain ⟨a, c, rfl, _⟩ := h.shape
  rcases a with _ | a
  · have hk : ks = [] := by
      rcases h0 with ⟨_, h2⟩ | ⟨b, o, c, e, _⟩ | ⟨a, e, h2⟩
      · exact List.eq_nil_of_length_eq_zero h2
      · cases e
      · cases e
    subst hk
    have hc : c = 0 := by
      rcases h0 with ⟨e, h2⟩ | ⟨b, o, c, e, _⟩ | ⟨a, e, h2⟩
      · cases e; rfl
      · cases e
      · cases e
    subst hc
    have hz : Try.prog.underlying 38 = some (.slice 4) := undBs
    have e1 := @Lib.run_eql_slice_nil Try.prog
    go_enter Try.func36, Try.ntmps36
    go_wp2_with fail
    go_ret
    exact ⟨.slice none 0 0, rfl, BlsT.nil _, World.grownBy.refl _ _, fun k hk => (by cases hk), ⟨_, _, _, rfl⟩⟩
  · have HBL := Blk.made w 4 #[]
    have hg := World.grownBy_alloc w (.cells #[] 4) none
    have h1 := h.keepNew hg
    obtain ⟨v', w', k1, k2, k3, k4, a', n', c', rfl⟩ := h1.append hl HBL 38
    have HRUN := Lib.hid k1
    have H2 := Lib.hid k2
    have H3 := Lib.hid (grown_new hg k3 (Nat.le_refl _))
    have H4 : Hid (∀ k, (Value.slice a' n' c').ownBlock = some k → w.heap.size ≤ k) := Lib.hid (fun k hk => by
      rcases k4 k hk with h | h
      · omega
      · have := hg.size; omega)
    clear k1 k2 k3 k4 h h0 h1 HBL hg
    have e1 := @Lib.run_eql_slice_nil Try.prog
    go_enter Try.func36, Try.ntmps36
    go_wp2_with (at_builtin; refine Lib.wpList_append_run _ rfl _ _ _ _ rfl _ _ rfl rfl _ _ HRUN.out ?_)
    go_ret
    exact ⟨_, rfl, H2.out, H3.out, H4.out, ⟨_, _, _, rfl⟩⟩
end Go.Proofs.Ytnnhnkpbiilooaa
