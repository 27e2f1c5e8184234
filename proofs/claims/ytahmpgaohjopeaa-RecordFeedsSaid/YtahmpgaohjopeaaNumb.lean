/- number: the bytes of a fragment's number. -/
import Derived.Test.YtahmpgaohjopeaaCopy
namespace Go.Proofs.Ytahmpgaohjopeaa
open Go.RowKit

theorem run_tail4 (r k : Nat) (hk : k < 4) (w : World) : (Instr.sliceAt 46 (.pointer (some ⟨r, 0, none⟩)) (some (.int .i64 (k : Int))) none none).run Try.prog w = .ok (.slice (some ⟨r, k, none⟩) (4 - k) (4 - k)) w := by
  have h4 : ¬ 4 < k := by omega
  have h5 : ¬ k = 4 := by omega
  simp [Instr.sliceAt, Instr.sliceBounds, Instr.sliceBound, run_underlying und53, asIntOf, go_sem, h4, h5, Addr.add]
  rw [if_pos (by omega)]
  congr 3
  split
  · omega
  · split
    · rename_i h; subst h; rfl
    · rfl

theorem inf5' : (Try.prog.info? 5).map (·.size) = some 1 := by kernel_rfl

/-- copy(head[k:], chunk). -/
theorem run_copy_run (w : World) (r : Nat) {t : TypeId} {xs : Array Value} (k n gu ou : Nat) {cu : Nat} (c : List UInt8) {m : Nat} (hb : Blk w r t xs) (hk : k < 4) (hn : c.length = Nat.min m (4 - k)) (hc : BCells w gu ou c) (hx : k + c.length ≤ xs.size) :
    (Builtin.copy_ #[30, 30] 3 #[.slice (some ⟨r, k, none⟩) (4 - k) n, .slice (some ⟨gu, ou, none⟩) m cu]).run Try.prog w = .ok (goInt c.length) (w.setCells r k (c.map u8v)) := by
  have h := run_copy_cells (P := Try.prog) w 30 30 3 5 r k (4 - k) n ⟨gu, ou, none⟩ m cu (c.map u8v) und22 inf5' (by simpa using hn) (fun j v hj => by
      rw [List.getElem?_map, Option.map_eq_some_iff] at hj
      obtain ⟨y, hy, rfl⟩ := hj
      obtain ⟨hj, rfl⟩ := List.getElem?_eq_some_iff.1 hy
      rw [Addr.add_mid]
      exact hc j hj) (fun j hj => (hb.there k c.length hx j (by simpa using hj)).1) (fun j hj => (hb.there k c.length hx j (by simpa using hj)).2) (u8v_cell c)
  rw [List.length_map] at h
  exact h

/-- Four bytes, some of them written anew. -/
theorem heads_set (h0 h1 h2 h3 : UInt8) (k : Nat) (y : List UInt8) (rest : List Value) (hk : k < 4) (hy : k + y.length ≤ 4) :
    ∃ g0 g1 g2 g3 : UInt8, setAll ((u8v h0 :: u8v h1 :: u8v h2 :: u8v h3 :: rest).toArray) k (y.map u8v) = (u8v g0 :: u8v g1 :: u8v g2 :: u8v g3 :: rest).toArray ∧ [g0, g1, g2, g3].take (k + y.length) = [h0, h1, h2, h3].take k ++ y := by
  match k, hk with
  | 0, _ =>
    match y, hy with
    | [], _ => exact ⟨h0, h1, h2, h3, by simp [setAll], by simp⟩
    | [a], _ => exact ⟨a, h1, h2, h3, by simp [setAll], by simp⟩
    | [a, b], _ => exact ⟨a, b, h2, h3, by simp [setAll], by simp⟩
    | [a, b, c], _ => exact ⟨a, b, c, h3, by simp [setAll], by simp⟩
    | [a, b, c, d], _ => exact ⟨a, b, c, d, by simp [setAll], by simp⟩
    | _ :: _ :: _ :: _ :: _ :: _, h => exact absurd h (by simp)
  | 1, _ =>
    match y, hy with
    | [], _ => exact ⟨h0, h1, h2, h3, by simp [setAll], by simp⟩
    | [a], _ => exact ⟨h0, a, h2, h3, by simp [setAll], by simp⟩
    | [a, b], _ => exact ⟨h0, a, b, h3, by simp [setAll], by simp⟩
    | [a, b, c], _ => exact ⟨h0, a, b, c, by simp [setAll], by simp⟩
    | _ :: _ :: _ :: _ :: _, h => exact absurd h (by simp; omega)
  | 2, _ =>
    match y, hy with
    | [], _ => exact ⟨h0, h1, h2, h3, by simp [setAll], by simp⟩
    | [a], _ => exact ⟨h0, h1, a, h3, by simp [setAll], by simp⟩
    | [a, b], _ => exact ⟨h0, h1, a, b, by simp [setAll], by simp⟩
    | _ :: _ :: _ :: _, h => simp at h; omega
  | 3, _ =>
    match y, hy with
    | [], _ => exact ⟨h0, h1, h2, h3, by simp [setAll], by simp⟩
    | [a], _ => exact ⟨h0, h1, h2, a, by simp [setAll], by simp⟩
    | _ :: _ :: _, h => simp at h; omega

def Numbered (w : World) (r : Nat) (v u : Value) (s : Ms) (rest : List UInt8) (e : Ending) (w' : World) : Prop :=
  ∃ v' u', e = .returned u' ∧ RS w' r v' s ∧ Bts w' u' rest ∧ w.grownBy w' (some r) ∧ (v' = v ∨ v' = .slice none 0 0) ∧ (u'.ownBlock = none ∨ u'.ownBlock = u.ownBlock)

set_option maxHeartbeats 400000 in
theorem number_full (r : Nat) (v u : Value) (s : Ms) (c : List UInt8) (w : World) (hr : RS w r v s) (hu : Bts w u c) (h4 : s.hd.length = 4) :
    Calls Try.prog 30 #[.pointer (some ⟨r, 0, none⟩), u] w (Numbered w r v u s c) := by
  have HR := Lib.hid hr
  obtain ⟨h0, h1, h2, h3, hblk, ht, hv⟩ := hr
  have c4 := hblk.cell (i := 4) (x := .int .i64 s.hd.length) rfl
  rw [h4] at c4
  have HU := Lib.hid hu
  obtain ⟨a, m, k, rfl⟩ := hu.shape
  clear hblk ht hv hu
  go_enter Try.func30, Try.ntmps30
  go_wp2_with fail
  go_ret
  exact ⟨_, _, rfl, HR.out, HU.out, World.grownBy.refl _ _, .inl rfl, .inr rfl⟩

theorem cut_from (g o k m c : Nat) (hk : k ≤ m) (h : m ≤ c) (hm : c ≤ maxLen) : ∃ a2 c2, (∀ w, (Instr.slice 30 (.slice (some ⟨g, o, none⟩) m c) (some (.int .i64 (k : Int))) none none).run Try.prog w = .ok (.slice a2 (m - k) c2) w) ∧
    ((Value.slice a2 (m - k) c2).ownBlock = none ∨ (Value.slice a2 (m - k) c2).ownBlock = some g) ∧ ∀ w bs, bs.length = m → BCells w g o bs → Bts w (.slice a2 (m - k) c2) (bs.drop k) := by
  have hkc : ¬ m < k := by omega
  by_cases hc : c = k
  · subst hc
    obtain rfl : m = c := by omega
    refine ⟨some ⟨g, o, none⟩, 0, fun w => ?_, .inr rfl, fun w bs hbs hb => .inr (.inr ⟨⟨g, o, none⟩, by rw [Nat.sub_self], by rw [← hbs]; exact List.drop_length⟩)⟩
    simp [Instr.slice, Instr.sliceBounds, Instr.sliceBound, run_underlying und22, siz5, asIntOf, go_sem]
  · refine ⟨some ⟨g, o + k, none⟩, c - k, fun w => ?_, .inr rfl, fun w bs hbs hb => .inr (.inl ⟨g, o + k, c - k, by rw [List.length_drop, hbs], by rw [List.length_drop, hbs]; omega, by omega, hb.drop k⟩)⟩
    simp [Instr.slice, Instr.sliceBounds, Instr.sliceBound, run_underlying und22, siz5, asIntOf, go_sem, hkc, hc]

/-- What was told of the bytes ahead. -/
structure Ahead (w : World) (r : Nat) (v : Value) (s : Ms) (m : Nat) : Prop where
  rs : RS w r v s
  hd : s.hd.length < 4
  body : s.body.length ≤ 4096
  came : s.came + m ≤ 4611686018427387904

set_option maxHeartbeats 800000 in
theorem number_part (r : Nat) (v u : Value) (s : Ms) (c : List UInt8) (w : World) (ha : Ahead w r v s c.length) (hu : Bts w u c) (hc : c ≠ []) (hur : u.ownBlock ≠ some r) (hl : s.hd.length + c.length < 4) :
    Calls Try.prog 30 #[.pointer (some ⟨r, 0, none⟩), u] w (Numbered w r v u { s with hd := s.hd ++ c, came := s.came + c.length } []) := by
  obtain ⟨hr, hh, hb, hcm⟩ := ha
  have HR := Lib.hid hr
  obtain ⟨h0, h1, h2, h3, hblk, ht, hv⟩ := hr
  have hpos : 0 < c.length := by cases c with
    | nil => exact absurd rfl hc
    | cons x l => simp
  obtain ⟨gu, ou, cu, rfl, hcell, hcu, hcm2⟩ := hu.at hpos
  obtain ⟨a2, c2, e2, hcut, hcb⟩ := cut_from gu ou c.length c.length cu (Nat.le_refl _) hcu hcm2
  have hcb' := fun w (hw : BCells w gu ou c) => hcb w c rfl hw
  rw [List.drop_length] at hcb'
  have HCB := Lib.hid hcb'; have HCE := Lib.hid hcell; clear hcb hcb'
  rw [Nat.sub_self] at e2 hcut HCB
  have hsl := run_tail4 r s.hd.length hh
  have hcp : (Builtin.copy_ #[30, 30] 3 #[.slice (some ⟨r, s.hd.length, none⟩) (4 - s.hd.length) (4 - s.hd.length), .slice (some ⟨gu, ou, none⟩) c.length cu]).run Try.prog w.drew = .ok (.int .i64 c.length) (w.drew.setCells r s.hd.length (c.map u8v)) :=
    (run_copy_run w.drew r _ _ _ _ c (hblk.new (drew_grown _ none)) hh (Nat.min_eq_left (by omega)).symm (fun i hi => hcell i hi) (by simp; omega)).trans (by simp [goInt])
  obtain ⟨W1, hW1⟩ : ∃ W1, W1 = w.drew.setCells r s.hd.length (c.map u8v) := ⟨_, rfl⟩
  have hb1 := (hblk.new (drew_grown w none)).setCells (c.map u8v) s.hd.length
  obtain ⟨g0, g1, g2, g3, hg1, hg2⟩ := heads_set h0 h1 h2 h3 s.hd.length c [.int .i64 s.hd.length, .int .i64 s.left, .bool s.last, v, .int .i64 s.came, .bool s.shut] hh (by omega)
  rw [hg1] at hb1
  have hgr : w.grownBy W1 (some r) := by rw [hW1]; exact setCells_grown r _ _ _ _ (drew_grown w _)
  rw [ht] at hg2
  rw [← hW1] at hcp hb1
  clear hW1 hg1
  have c4 := hblk.cell (i := 4) (x := .int .i64 s.hd.length) rfl
  have c4' := hb1.cell (i := 4) (x := .int .i64 s.hd.length) rfl
  have c8' := hb1.cell (i := 8) (x := .int .i64 s.came) rfl
  have f4 := hb1.frozen 4
  have f8 := hb1.frozen 8
  have hm1 : (s.hd.length : Int) + (c.length : Int) < 4 := by omega
  have hm2 : (s.came : Int) + (c.length : Int) ≤ 9223372036854775807 := by omega
  have HB := Lib.hid hb1; have HT := Lib.hid hg2; have HV := Lib.hid hv; have HG := Lib.hid hgr; have HCU := Lib.hid hcut
  clear hblk ht hv hcell hu hb1 hg2 hgr hcut
  have hd2 : (s.hd ++ c).length = s.hd.length + c.length := List.length_append
  have HD := Lib.hid hd2; clear hd2
  generalize c.length = m at *
  generalize s.hd.length = n at *
  go_enter Try.func30, Try.ntmps30
  go_wp2_with fail
  go_region_held3 (fun w' => w'.cell? ⟨r, 4, none⟩ = some (.int .i64 n)) (go_keep) (fail)
  go_wp2_with fail
  go_ret
  refine ⟨v, _, rfl, ⟨g0, g1, g2, g3, ?_, ?_, ?_⟩, ?_, ?_, .inl rfl, HCU.out⟩
  · have h := (HB.out.set 4 (.int .i64 ((n : Int) + m))).set 8 (.int .i64 ((s.came : Int) + m))
    rw [HD.out]
    simpa using h
  · rw [HD.out]; exact HT.out
  · refine HV.out.kept (Lib.grownBy_setB (Lib.grownBy_setB HG.out _ _) _ _) ?_
    rcases hob : v.ownBlock with _ | g
    · exact .inl rfl
    · exact .inr (by simpa using (HR.out.lt g hob).2)
  · refine HCB.out _ fun i hi => ?_
    exact (Lib.grownBy_setB (Lib.grownBy_setB HG.out _ _) _ _).cell (HCE.out i hi) hur
  · exact Lib.grownBy_setB (Lib.grownBy_setB HG.out _ _) _ _

theorem bts_heads {w : World} {r : Nat} {t : TypeId} (y0 y1 y2 y3 : UInt8) {rest : List Value} (h : Blk w r t (u8v y0 :: u8v y1 :: u8v y2 :: u8v y3 :: rest).toArray) :
    Bts w (.slice (some ⟨r, 0, none⟩) 4 4) [y0, y1, y2, y3] := by
  refine .inr (.inl ⟨r, 0, 4, rfl, by simp, by unfold maxLen; omega, fun i hi => ?_⟩)
  match i, hi with
  | 0, _ => exact h.cell (i := 0) (by simp [u8v])
  | 1, _ => exact h.cell (i := 1) (by simp [u8v])
  | 2, _ => exact h.cell (i := 2) (by simp [u8v])
  | 3, _ => exact h.cell (i := 3) (by simp [u8v])

theorem run_all4 (r : Nat) (w : World) : (Instr.sliceAt 46 (.pointer (some ⟨r, 0, none⟩)) none none none).run Try.prog w = .ok (.slice (some ⟨r, 0, none⟩) 4 4) w := by
  simp [Instr.sliceAt, Instr.sliceBounds, Instr.sliceBound, run_underlying und53, asIntOf, go_sem, Addr.add]

theorem grown_two {a b c : World} {x y : Nat} (h : a.grownBy b (some x)) (k : b.grownBy c (some y)) (hy : a.heap.size ≤ y) : a.grownBy c (some x) :=
  ⟨k.os.trans h.os, k.tape.trans h.tape, k.output.trans h.output, Nat.le_trans h.size k.size, fun i hi hne => (k.block i (Nat.lt_of_lt_of_le hi h.size) (by simp; omega)).trans (h.block i hi hne)⟩

theorem headN_eq (a b c d : UInt8) : headN [a, b, c, d] = (num4 a.toNat b.toNat c.toNat d.toNat).toNat := by simp only [headN]
theorem headN_lt (a b c d : UInt8) : headN [a, b, c, d] < 4294967296 := by
  have := num4_lt a.toNat b.toNat c.toNat d.toNat a.toNat_lt b.toNat_lt c.toNat_lt d.toNat_lt
  rw [headN_eq]
  omega
theorem headN_num (a b c d : UInt8) : num4 a.toNat b.toNat c.toNat d.toNat = ((headN [a, b, c, d] : Nat) : Int) := by
  have := num4_lt a.toNat b.toNat c.toNat d.toNat a.toNat_lt b.toNat_lt c.toNat_lt d.toNat_lt
  rw [headN_eq]
  omega

set_option maxHeartbeats 1600000 in
theorem number_open (r : Nat) (v u : Value) (s : Ms) (c : List UInt8) (w : World) (ha : Ahead w r v s c.length) (hu : Bts w u c) (hur : u.ownBlock ≠ some r) (hl : 4 ≤ s.hd.length + c.length) :
    Calls Try.prog 30 #[.pointer (some ⟨r, 0, none⟩), u] w
      (Numbered w r v u (({ s with hd := s.hd ++ c.take (4 - s.hd.length), came := s.came + (4 - s.hd.length) } : Ms).opened (headN (s.hd ++ c.take (4 - s.hd.length)))) (c.drop (4 - s.hd.length))) := by
  obtain ⟨hr, hh, hb, hcm⟩ := ha
  have HR := Lib.hid hr
  obtain ⟨h0, h1, h2, h3, hblk, ht, hv⟩ := hr
  have hpos : 0 < c.length := by omega
  obtain ⟨gu, ou, cu, rfl, hcell, hcu, hcm2⟩ := hu.at hpos
  obtain ⟨a2, c2, e2, hcut, hcb⟩ := cut_from gu ou (4 - s.hd.length) c.length cu (by omega) hcu hcm2
  have HCB := Lib.hid (fun w (hw : BCells w gu ou c) => hcb w c rfl hw); have HCE := Lib.hid hcell; clear hcb
  have hy : (c.take (4 - s.hd.length)).length = 4 - s.hd.length := by rw [List.length_take]; omega
  have hsl := run_tail4 r s.hd.length hh
  have hall := run_all4 r
  have hcp : (Builtin.copy_ #[30, 30] 3 #[.slice (some ⟨r, s.hd.length, none⟩) (4 - s.hd.length) (4 - s.hd.length), .slice (some ⟨gu, ou, none⟩) c.length cu]).run Try.prog w.drew = .ok (.int .i64 ((4 - s.hd.length : Nat) : Int)) (w.drew.setCells r s.hd.length ((c.take (4 - s.hd.length)).map u8v)) :=
    (run_copy_run w.drew r _ _ _ _ _ (hblk.new (drew_grown _ none)) hh (by rw [hy]; exact (Nat.min_eq_right (by omega)).symm) (fun i hi => (BCells.take hcell _) i hi) (by simp; omega)).trans (by simp [goInt, hy])
  obtain ⟨W1, hW1⟩ : ∃ W1, W1 = w.drew.setCells r s.hd.length ((c.take (4 - s.hd.length)).map u8v) := ⟨_, rfl⟩
  have hb1 := (hblk.new (drew_grown w none)).setCells ((c.take (4 - s.hd.length)).map u8v) s.hd.length
  obtain ⟨g0, g1, g2, g3, hg1, hg2⟩ := heads_set h0 h1 h2 h3 s.hd.length (c.take (4 - s.hd.length)) [.int .i64 s.hd.length, .int .i64 s.left, .bool s.last, v, .int .i64 s.came, .bool s.shut] hh (by omega)
  rw [hg1] at hb1
  have hgr : w.grownBy W1 (some r) := by rw [hW1]; exact setCells_grown r _ _ _ _ (drew_grown w _)
  rw [ht, hy, show s.hd.length + (4 - s.hd.length) = 4 by omega] at hg2
  have hg2' : [g0, g1, g2, g3] = s.hd ++ c.take (4 - s.hd.length) := by simpa using hg2
  rw [← hW1] at hcp hb1
  clear hW1 hg1 hg2
  rw [← hg2']
  have c4 := hblk.cell (i := 4) (x := .int .i64 s.hd.length) rfl
  have c4' := hb1.cell (i := 4) (x := .int .i64 s.hd.length) rfl
  have c8' := hb1.cell (i := 8) (x := .int .i64 s.came) rfl
  have f4 := hb1.frozen 4
  have f8 := hb1.frozen 8
  have hm1 : (s.hd.length : Int) + ((4 - s.hd.length : Nat) : Int) = 4 := by omega
  have hm2 : (s.came : Int) + ((4 - s.hd.length : Nat) : Int) ≤ 9223372036854775807 := by omega
  have hm3 : ((4 - s.hd.length : Nat) : Int) ≤ 4 := by omega
  have hm4 : ((4 - s.hd.length : Nat) : Int) ≤ c.length := by omega
  have hm5 : (s.hd.length : Int) < 4 := by omega
  have hm6 : (c.length : Int) ≤ cu := by omega
  -- the state ahead of open
  obtain ⟨W2, hW2⟩ : ∃ W2, W2 = (W1.setCell ⟨r, 4, none⟩ (.int .i64 4)).setCell ⟨r, 8, none⟩ (.int .i64 ((s.came : Int) + ((4 - s.hd.length : Nat) : Int))) := ⟨_, rfl⟩
  have hg3 : w.grownBy W2 (some r) := by rw [hW2]; exact Lib.grownBy_setB (Lib.grownBy_setB hgr _ _) _ _
  have hr2 : RS W2 r v { s with hd := [g0, g1, g2, g3], came := s.came + (4 - s.hd.length) } := by
    refine ⟨g0, g1, g2, g3, ?_, rfl, ?_⟩
    · have h := (hb1.set 4 (.int .i64 4)).set 8 (.int .i64 ((s.came : Int) + ((4 - s.hd.length : Nat) : Int)))
      rw [← hW2] at h
      simpa using h
    · refine hv.kept hg3 ?_
      rcases hob : v.ownBlock with _ | g
      · exact .inl rfl
      · exact .inr (by simpa using (HR.out.lt g hob).2)
  have hB2 : Bts W2 (.slice (some ⟨r, 0, none⟩) 4 4) [g0, g1, g2, g3] := by
    have h := (hb1.set 4 (.int .i64 4)).set 8 (.int .i64 ((s.came : Int) + ((4 - s.hd.length : Nat) : Int)))
    rw [← hW2] at h
    refine bts_heads g0 g1 g2 g3 (t := 48) (rest := [.int .i64 4, .int .i64 s.left, .bool s.last, v, .int .i64 ((s.came : Int) + ((4 - s.hd.length : Nat) : Int)), .bool s.shut]) ?_
    simpa using h
  have HB := Lib.hid hb1; have HV := Lib.hid hv; have HG := Lib.hid hg3; have HCU := Lib.hid hcut; have HR2 := Lib.hid hr2; have HB2 := Lib.hid hB2; have HW2 := Lib.hid hW2; have HHB := Lib.hid hb
  have hN := headN_lt g0 g1 g2 g3
  have hN' := headN_num g0 g1 g2 g3
  have HN := Lib.hid hN; have HN' := Lib.hid hN'
  clear hblk ht hv hcell hu hb1 hgr hcut hr2 hB2 hg2' hg3 hW2 hN hN' hb
  generalize headN [g0, g1, g2, g3] = N at *
  generalize 4 - s.hd.length = k at *
  generalize hnn : s.hd.length = n at *
  generalize hmm : c.length = m at *
  clear hnn hmm
  go_enter Try.func30, Try.ntmps30
  go_wp2_with fail
  go_region_held3 (fun w' => w'.cell? ⟨r, 4, none⟩ = some (.int .i64 n)) (go_keep) (fail)
  go_wp2_with fail
  rw [← HW2.out]
  refine (newReader_r _ _ _ HB2.out (by simp)).mono ?_; rintro e W3 ⟨rr, g, rfl, q1, q2, q3⟩
  have Q1 := Lib.hid q1; have Q2 := Lib.hid q2; have Q3 := Lib.hid q3; clear q1 q2 q3
  go_wp2_with fail
  refine (word_yes rr g g0 g1 g2 g3 [] W3 Q1.out).mono ?_; rintro e W4 ⟨rfl, p1, p2⟩
  have hg4 := grown_own Q2.out p2 (fun n hn => by cases hn; exact Q3.out)
  have HG4 := Lib.hid hg4; clear p1 p2 hg4
  rw [HN'.out]
  go_wp2_with fail
  refine (open_any r v _ N W4 (HR2.out.new HG4.out) HHB.out HN.out).mono ?_; rintro e W5 ⟨rfl, v5, o1, o2, o3⟩
  have O1 := Lib.hid o1; have O2 := Lib.hid o2; have O3 := Lib.hid o3; clear o1 o2 o3
  go_wp2_with fail
  go_ret
  have hg5 := World.grownBy.trans HG.out (World.grownBy.trans (grownBy_none HG4.out (some r)) O2.out)
  exact ⟨v5, _, rfl, O1.out, HCB.out _ (fun i hi => hg5.cell (HCE.out i hi) hur), hg5, O3.out, HCU.out⟩

theorem rnumber_any (r : Nat) (v u : Value) (s : Ms) (c : List UInt8) (w : World) (hr : RS w r v s) (hok : s.Ok false) (hcm : s.came + c.length ≤ 4611686018427387904) (hu : Bts w u c) (hc : c ≠ []) (hur : u.ownBlock ≠ some r) :
    Calls Try.prog 30 #[.pointer (some ⟨r, 0, none⟩), u] w (Numbered w r v u (s.num c).1 (s.num c).2) := by
  unfold Ms.num
  have hb := hok.body
  by_cases h4 : s.hd.length = 4
  · rw [if_pos h4]
    exact number_full r v u s c w hr hu h4
  · rw [if_neg h4]
    have ha : Ahead w r v s c.length := ⟨hr, by have := hok.hd; omega, by omega, hcm⟩
    by_cases hl : s.hd.length + c.length < 4
    · rw [if_pos hl]
      exact number_part r v u s c w ha hu hc hur hl
    · rw [if_neg hl]
      exact number_open r v u s c w ha hu hur (by omega)
end Go.Proofs.Ytahmpgaohjopeaa
