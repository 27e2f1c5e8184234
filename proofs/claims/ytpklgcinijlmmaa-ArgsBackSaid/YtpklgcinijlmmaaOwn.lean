/- Bytes of the call's own: slices in new memory, appended to; slices.Grow and slices.Concat. -/
import Derived.Test.YtpklgcinijlmmaaUnd
import Derived.LoopTactic
import Derived.Laws.AppendOwnNone
import Derived.Lib.AppendZeros
import Derived.Maps.AppendAt
namespace Go.Proofs.Ytpklgcinijlmmaa
open Go.RowKit

/-- A byte as a cell holds it. -/
def u8v (x : UInt8) : Value := .int .u8 (x.toNat : Int)

/-- The slice v is of the call's own (in a block from base on) and holds these bytes. -/
def Own (w : World) (base : Nat) (v : Value) (bs : List UInt8) : Prop := w.ownsRow base 5 1 v bs.length (bs.map u8v)

theorem Own.bts {w : World} {base : Nat} {v : Value} {bs : List UInt8} (h : Own w base v bs) : Bts w v bs := by
  have h0 := h
  obtain ⟨_, ⟨rfl, h2⟩ | ⟨g, cap, cur, rfl, _, hg, h3, h4, h5, h6⟩⟩ := h
  · exact .inl ⟨rfl, List.eq_nil_of_length_eq_zero h2⟩
  · refine .inr (.inl ⟨g, 0, cap, rfl, h3, h4, fun i hi => ?_⟩)
    have := h0.cells (g := g) rfl i (u8v bs[i]) (by simp [List.getElem?_map, List.getElem?_eq_getElem hi])
    have hadd : (⟨g, 0, none⟩ : Addr).add i = ⟨g, i, none⟩ := by unfold Addr.add; split <;> simp_all
    rw [hadd] at this
    rw [Nat.zero_add]
    exact this

theorem Own.nil (w : World) (base : Nat) : Own w base (.slice none 0 0) [] := World.ownsRow_nil w base _ 1

theorem Own.kept {w w' : World} {base : Nat} {v : Value} {bs : List UInt8} {row : Option Nat} (h : Own w base v bs) (hg : w.grownBy w' row) (hne : v.ownBlock = none ∨ v.ownBlock ≠ row) : Own w' base v bs := World.ownsRow.kept h hg hne

theorem Own.new {w w' : World} {base : Nat} {v : Value} {bs : List UInt8} (h : Own w base v bs) (hg : w.grownBy w' none) : Own w' base v bs := by
  refine h.kept hg ?_
  cases v.ownBlock <;> simp

theorem Own.lt {w : World} {base : Nat} {v : Value} {bs : List UInt8} (h : Own w base v bs) : ∀ k, v.ownBlock = some k → base ≤ k ∧ k < w.heap.size := World.ownsRow.lt h

theorem Own.base {w : World} {base b' : Nat} {v : Value} {bs : List UInt8} (h : Own w base v bs) (hb : b' ≤ base) : Own w b' v bs := by
  obtain ⟨h1, h2 | ⟨g, cap, cur, h3, h4, h5⟩⟩ := h
  · exact ⟨h1, .inl h2⟩
  · exact ⟨h1, .inr ⟨g, cap, cur, h3, Nat.le_trans hb h4, h5⟩⟩

/-- Bytes that lay there ahead of the call stay, whatever is done to blocks of the call's own. -/
theorem Bts.old {w w' : World} {base : Nat} {v : Value} {bs : List UInt8} {row : Option Nat} (h : Bts w v bs) (hs : w.heap.size ≤ base) (hg : w.grownBy w' row) (hr : ∀ k, row = some k → base ≤ k) : Bts w' v bs := by
  rcases h with h | ⟨b, o, c, rfl, h1, h2, h3⟩ | h
  rotate_left 2
  · exact .inr (.inr h)
  · exact .inl h
  · refine .inr (.inl ⟨b, o, c, rfl, h1, h2, fun i hi => ?_⟩)
    refine hg.cell (h3 i hi) ?_
    intro he
    have := World.block_lt_of_cell? w _ (h3 i hi)
    have := hr _ he.symm
    simp at *
    omega

theorem inf5 : (Try.prog.info? 5).map (fun i => (i.zero, i.size, i.bytes)) = some (some (.int .u8 0), 1, 1) := by kernel_rfl
theorem und3 : Try.prog.underlying 3 = some (.int .i64) := by kernel_rfl

theorem u8v_cell (xs : List UInt8) : ∀ u ∈ xs.map u8v, u.oneCell' = true := by
  intro u hu
  obtain ⟨x, _, rfl⟩ := List.mem_map.1 hu
  rfl

/-- What an append of bytes to bytes of the call's own leaves. -/
def Appended (w : World) (base : Nat) (v : Value) (bs : List UInt8) (v' : Value) (w' : World) : Prop :=
  Own w' base v' bs ∧ w.grownBy w' v.ownBlock ∧ (v'.ownBlock = v.ownBlock ∨ v'.ownBlock = some w.heap.size)

/-- append(s, x...) of bytes: s of the call's own, x whatever. -/
theorem wpList_append_bts {w : World} {ops : Array Oper} {rest : List Oper} {o : Oper} {a : Act} {Q : Exit → Act → World → Prop} (hgd : o.guard = none) (s x : Operand)
    (ho : o.op = .call { callee := .builtin .append, args := #[s, x], argTypes := #[55, 55] })
    (base : Nat) (v u : Value) (bs xs : List UInt8) (hs : a.eval s = v) (hx : a.eval x = u) (hown : Own w base v bs) (hu : Bts w u xs)
    (hn : bs.length + xs.length ≤ 140737488355328) (hbase : base ≤ w.heap.size)
    (h : ∀ v' w', Appended w base v (bs ++ xs) v' w' → wpList Try.prog ops Q rest (a.put o.dst v') w') : wpList Try.prog ops Q (o :: rest) a w := by
  obtain ⟨i, hi, hz0, hz1, hz2⟩ := info_parts inf5
  rcases hu with ⟨rfl, rfl⟩ | ⟨b, off, c, rfl, h1, h2, h3⟩ | ⟨ad, rfl, rfl⟩
  rotate_left 2
  · refine wpList_append_own_at _ hgd s x _ ho base _ i _ 1 1 und22 hi hz0 hz1 hz2 rfl (by omega) v bs.length (bs.map u8v) hs hown ad 0 0 [] hx (by simp) (fun j u hj => by simp at hj) (by simp) (by unfold maxLen; simp at hn; omega) (by simp at hn; omega) hbase ?_
    intro v' w' k1 k2 _ k4
    refine h v' w' ⟨?_, k2, k4⟩
    rw [List.append_nil] at k1 ⊢
    exact k1
  · refine wpList_append_own_none hgd s x _ ho base _ i 1 und22 hi v bs.length (bs.map u8v) hs hown hx (h v w ⟨?_, World.grownBy.refl _ _, .inl rfl⟩)
    rw [List.append_nil]; exact hown
  · refine wpList_append_own_at _ hgd s x _ ho base _ i _ 1 1 und22 hi hz0 hz1 hz2 rfl (by omega) v bs.length (bs.map u8v) hs hown ⟨b, off, none⟩ xs.length c (xs.map u8v) hx (by simp) (fun j u hj => ?_) (u8v_cell xs) (by unfold maxLen; omega) (by omega) hbase ?_
    · rw [List.getElem?_map, Option.map_eq_some_iff] at hj
      obtain ⟨y, hy, rfl⟩ := hj
      obtain ⟨hj, rfl⟩ := List.getElem?_eq_some_iff.1 hy
      have hadd : (⟨b, off, none⟩ : Addr).add j = ⟨b, off + j, none⟩ := by unfold Addr.add; split <;> simp_all
      rw [hadd]
      exact h3 j hj
    · intro v' w' k1 k2 _ k4
      refine h v' w' ⟨?_, k2, k4⟩
      unfold Own
      rw [List.length_append, List.map_append]
      exact k1

theorem grown_own {w a b : World} {row : Option Nat} (h : w.grownBy a none) (k : a.grownBy b row) (hr : ∀ n, row = some n → w.heap.size ≤ n) : w.grownBy b none :=
  ⟨k.os.trans h.os, k.tape.trans h.tape, k.output.trans h.output, Nat.le_trans h.size k.size, fun i hi _ => (k.block i (Nat.lt_of_lt_of_le hi h.size) (fun e => by have := hr i e.symm; omega)).trans (h.block i hi (by simp))⟩

/-- New bytes, told. -/
def New (w : World) (bs : List UInt8) (e : Ending) (w' : World) : Prop := ∃ v, e = .returned v ∧ Own w' w.heap.size v bs ∧ w.grownBy w' none

set_option maxRecDepth 20000 in
set_option maxHeartbeats 400000 in
theorem grow_nil (n : Nat) (w : World) (hn : n ≤ 140737488355328) :
    Calls Try.prog 88 #[.slice none 0 0, .int .i64 (n : Int)] w (New w []) := by
  by_cases h0 : n = 0
  · subst h0
    go_enter Try.func88, Try.ntmps88
    go_wp2
    go_ret
    exact ⟨_, rfl, Own.nil _ _, World.grownBy.refl _ _⟩
  · obtain ⟨i, hi, hz0, hz1, hz2⟩ := info_parts inf5
    have hr := Lib.run_append_nil_zeros (P := Try.prog) w 55 3 55 5 i _ .i64 .i64 und22 und3 hi hz0 n (by omega) (by omega) (by omega) (by rw [hz2]; omega)
    have hO := World.ownsRow_made (base := w.heap.size) (e := 5) (size := 1) w.drew (Builtin.zeroCells (Value.int IntKind.u8 0).cells n ++ Builtin.zeroCells (Value.int IntKind.u8 0).cells (grownCap w n 0 5 - n)) (grownCap w n 0 5) (Nat.le_refl _) (grownCap_le_maxLen w n 0 _ (by unfold maxLen; omega))
      (by have := grownCap_ge w n 0 5
          simp [size_zeroCells, Value.cells]; omega)
    have hG : w.grownBy (w.drew.alloc (.cells (Builtin.zeroCells (Value.int IntKind.u8 0).cells n ++ Builtin.zeroCells (Value.int IntKind.u8 0).cells (grownCap w n 0 5 - n)) 5)) none :=
      World.grownBy.trans (show w.grownBy w.drew none from ⟨rfl, rfl, rfl, Nat.le_refl _, fun _ _ _ => rfl⟩) (World.grownBy_alloc _ _ _)
    generalize w.drew.alloc (.cells (Builtin.zeroCells (Value.int IntKind.u8 0).cells n ++ Builtin.zeroCells (Value.int IntKind.u8 0).cells (grownCap w n 0 5 - n)) 5) = w2 at *
    generalize grownCap w n 0 5 = cp at *
    have HO := Lib.hid hO; have HG := Lib.hid hG; have HR := Lib.hid hr
    have hc : cp ≤ 9223372036854775807 := by
      obtain ⟨_, _ | ⟨g, cap, cur, h1, _, _, _, h4, _⟩⟩ := hO
      · rename_i h; cases h.1
      · cases h1; unfold maxLen at h4; omega
    have h1 : 0 < n := by omega
    have h2 : (n : Int) ≤ 140737488355328 := by omega
    have hz := siz5
    clear hO hG hr hz0 hz1 hz2 hi h0
    go_enter Try.func88, Try.ntmps88
    go_wp2_with (at_builtin; refine Lib.wpList_append_run _ rfl _ _ _ _ rfl _ _ rfl rfl _ _ HR.out ?_)
    go_ret
    exact ⟨_, rfl, HO.out, HG.out⟩

/-- How many bytes the first i of them have. -/
def sumLen (vs : List (Value × List UInt8)) (i : Nat) : Nat := ((vs.take i).map fun p => p.2.length).sum
def allOf (vs : List (Value × List UInt8)) (i : Nat) : List UInt8 := (vs.take i).flatMap fun p => p.2

theorem sumLen_succ (vs : List (Value × List UInt8)) (i : Nat) (h : i < vs.length) : sumLen vs (i + 1) = sumLen vs i + vs[i].2.length := by
  unfold sumLen
  rw [List.take_succ_eq_append_getElem h, List.map_append, List.sum_append]
  simp
theorem allOf_succ (vs : List (Value × List UInt8)) (i : Nat) (h : i < vs.length) : allOf vs (i + 1) = allOf vs i ++ vs[i].2 := by
  unfold allOf
  rw [List.take_succ_eq_append_getElem h, List.flatMap_append]
  simp
theorem sumLen_allOf (vs : List (Value × List UInt8)) (i : Nat) : (allOf vs i).length = sumLen vs i := by
  unfold sumLen allOf
  simp [List.length_flatMap]
theorem sumLen_le (vs : List (Value × List UInt8)) (i : Nat) : sumLen vs i ≤ sumLen vs vs.length := by
  unfold sumLen
  rw [List.take_of_length_le (Nat.le_refl _)]
  conv => rhs; rw [← List.take_append_drop i vs]
  rw [List.map_append, List.sum_append]
  omega

theorem und62 : Try.prog.underlying 128 = some (.slice 55) := by kernel_rfl

set_option maxRecDepth 20000 in
set_option maxHeartbeats 800000 in
theorem concat_any (B c : Nat) (vs : List (Value × List UInt8)) (w : World) (hc : ∀ i (h : i < vs.length), w.cell? ⟨B, i, none⟩ = some vs[i].1) (hb : ∀ i (h : i < vs.length), Bts w vs[i].1 vs[i].2)
    (hl : sumLen vs vs.length ≤ 140737488355328) (hk : vs.length ≤ 1000) :
    Calls Try.prog 42 #[.slice (some ⟨B, 0, none⟩) vs.length c] w (New w (allOf vs vs.length)) := by
  have HL : Hid (∀ i, sumLen vs i ≤ 140737488355328) := Lib.hid fun i => Nat.le_trans (sumLen_le vs i) hl
  have HC := Lib.hid hc; have HB := Lib.hid hb
  clear hc hb hl
  obtain ⟨n, hn⟩ : ∃ n, n = vs.length := ⟨_, rfl⟩
  rw [← hn] at hk ⊢
  have HN := Lib.hid hn; clear hn
  go_enter Try.func42, Try.ntmps42
  go_wp2_with fail
  go_loop [3, 11] (fun s i => ∃ k : Nat, k ≤ n ∧ i = .int .i64 k ∧ s = .int .i64 (sumLen vs k)) (fun _ i => n - (intOf i).toNat)
  case atStart => exact ⟨0, Nat.zero_le _, rfl, rfl⟩
  case round =>
    obtain ⟨k, hk1, rfl, rfl⟩ := hrel
    have h1 := HL.out k
    by_cases hlt : k < n
    · have hlt' : k < vs.length := by rw [← HN.out]; exact hlt
      obtain ⟨a, c1, hv, _, hm⟩ := (HB.out k hlt').form
      have hcell := HC.out k hlt'
      rw [hv] at hcell
      have hs := sumLen_succ vs k hlt'
      have h2 := HL.out (k + 1)
      rw [hs] at h2
      have HS := Lib.hid hs
      generalize vs[k].2.length = m at *
      generalize sumLen vs k = s at *
      clear hv hs hm
      go_wp2_with fail
      go_round
      case rel => exact ⟨k + 1, by omega, by go_num, by rw [HS.out]; go_num⟩
      case measure => simp [intOf]; omega
    · obtain rfl : k = n := by omega
      clear hlt
      obtain ⟨s, hs⟩ : ∃ s, s = sumLen vs k := ⟨_, rfl⟩
      rw [← hs] at h1 ⊢
      clear hs
      go_wp2_with fail
      refine (grow_nil s w h1).mono ?_; rintro e w2 ⟨v2, rfl, h3, h4⟩
      obtain ⟨a2, n2, c2, rfl⟩ := h3.bts.shape
      have H3 := Lib.hid h3; have H4 := Lib.hid h4; clear h3 h4 h1
      go_wp2_with fail
      go_loopw [6, 27] (fun v i w' => ∃ j : Nat, j ≤ k ∧ i = .int .i64 j ∧ Own w' w.heap.size v (allOf vs j) ∧ w.grownBy w' none) (fun _ i w' => k - (intOf i).toNat)
      case atStart => exact ⟨0, Nat.zero_le _, rfl, H3.out, H4.out⟩
      case round =>
        obtain ⟨j, hj1, rfl, hown, hgr⟩ := hrel
        by_cases hlt : j < k
        · have hlt' : j < vs.length := by rw [← HN.out]; exact hlt
          have hcell := hgr.cell (HC.out j hlt') (by simp)
          have hbts := (HB.out j hlt').new hgr
          have hsz := hgr.size
          obtain ⟨a3, n3, c3, rfl⟩ := hown.bts.shape
          obtain ⟨a4, n4, c4, h4⟩ := hbts.shape
          have hs := sumLen_allOf vs j
          have hs2 := sumLen_allOf vs (j + 1)
          have hA := allOf_succ vs j hlt'
          rw [hA, List.length_append] at hs2
          have h2 := HL.out (j + 1)
          rw [← hs2] at h2
          rw [h4] at hcell hbts
          have HOW := Lib.hid hown; have HBT := Lib.hid hbts; have HG := Lib.hid hgr; have HA := Lib.hid hA; have H2 := Lib.hid h2; have HSZ := Lib.hid hsz
          clear hown hbts hgr h4 hs hs2 hA h2 hsz
          go_wp2_with (at_builtin; refine wpList_append_bts rfl _ _ rfl _ _ _ _ _ rfl rfl HOW.out HBT.out H2.out HSZ.out ?_; rintro v5 w5 ⟨h6, h7, h8⟩; obtain ⟨a5, n5, c5, rfl⟩ := h6.bts.shape; have H6 := Lib.hid h6; have H7 := Lib.hid h7; clear h6 h7 h8)
          go_roundw
          case rel => exact ⟨j + 1, by omega, by go_num, by rw [HA.out]; exact H6.out, grown_own HG.out H7.out (fun m hm => (HOW.out.lt m hm).1)⟩
          case measure => simp [intOf]; omega
        · obtain rfl : j = k := by omega
          obtain ⟨a3, n3, c3, rfl⟩ := hown.bts.shape
          have HOW := Lib.hid hown; have HG := Lib.hid hgr
          clear hlt hown hgr
          go_wp2_with fail
          go_ret
          exact ⟨_, rfl, HOW.out, HG.out⟩
end Go.Proofs.Ytpklgcinijlmmaa
