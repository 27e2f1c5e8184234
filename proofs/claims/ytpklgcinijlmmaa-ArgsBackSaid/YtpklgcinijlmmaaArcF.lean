/- Arguments as words, the code: Write. -/
import Derived.Test.YtpklgcinijlmmaaArcE
import Derived.Test.YtpklgcinijlmmaaArgQ
import Derived.Laws.StructEq
namespace Go.Proofs.Ytpklgcinijlmmaa
open Go.RowKit

set_option maxRecDepth 20000 in
set_option maxHeartbeats 2000000 in
theorem neq_args (p q : PA) (w : World) : (binOp .neq 27 (paV p) (paV q)).run Try.prog w = .ok (.bool (decide (p ≠ q))) w := by
  obtain ⟨⟨h1, h2, h3⟩, ⟨t1, t2, t3⟩, n, o, x, a, q1, m, s, b, g, v⟩ := p
  obtain ⟨⟨h1', h2', h3'⟩, ⟨t1', t2', t3'⟩, n', o', x', a', q1', m', s', b', g', v'⟩ := q
  unfold paV paC txt
  dsimp only
  go_simp
  by_cases e0 : h1 = h1'
  rotate_left
  · rw [if_neg e0]; simp [e0]
  rw [if_pos e0]
  by_cases e1 : h2 = h2'
  rotate_left
  · rw [if_neg e1]; simp [e1]
  rw [if_pos e1]
  by_cases e2 : h3 = h3'
  rotate_left
  · rw [if_neg e2]; simp [e2]
  rw [if_pos e2]
  by_cases e3 : t1 = t1'
  rotate_left
  · rw [if_neg e3]; simp [e3]
  rw [if_pos e3]
  by_cases e4 : t2 = t2'
  rotate_left
  · rw [if_neg e4]; simp [e4]
  rw [if_pos e4]
  by_cases e5 : t3 = t3'
  rotate_left
  · rw [if_neg e5]; simp [e5]
  rw [if_pos e5]
  by_cases e6 : n = n'
  rotate_left
  · rw [if_neg e6]; simp [e6]
  rw [if_pos e6]
  by_cases e7 : o = o'
  rotate_left
  · rw [if_neg e7]; simp [e7]
  rw [if_pos e7]
  by_cases e8 : x = x'
  rotate_left
  · rw [if_neg e8]; simp [e8]
  rw [if_pos e8]
  by_cases e9 : a = a'
  rotate_left
  · rw [if_neg e9]; simp [e9]
  rw [if_pos e9]
  by_cases e10 : q1 = q1'
  rotate_left
  · rw [if_neg e10]; simp [e10]
  rw [if_pos e10]
  by_cases e11 : m = m'
  rotate_left
  · rw [if_neg e11]; simp [e11]
  rw [if_pos e11]
  by_cases e12 : s = s'
  rotate_left
  · rw [if_neg e12]; simp [e12]
  rw [if_pos e12]
  by_cases e13 : b = b'
  rotate_left
  · rw [if_neg e13]; simp [e13]
  rw [if_pos e13]
  by_cases e14 : g = g'
  rotate_left
  · rw [if_neg e14]; simp [e14]
  rw [if_pos e14]
  by_cases e15 : v = v'
  rotate_left
  · rw [if_neg e15]; simp [e15]
  rw [if_pos e15]
  simp [e0, e1, e2, e3, e4, e5, e6, e7, e8, e9, e10, e11, e12, e13, e14, e15]

/-- append(s, x...) of bytes, told outright. -/
theorem run_append_bts (ty : TypeId) (w : World) (base : Nat) (v u : Value) (bs xs : List UInt8) (hown : Own w base v bs) (hu : Bts w u xs) (hn : bs.length + xs.length ≤ 140737488355328) (hbase : base ≤ w.heap.size) :
    ∃ v' w', (Builtin.append_ #[55, 55] ty #[v, u]).run Try.prog w = .ok v' w' ∧ Appended w base v (bs ++ xs) v' w' := by
  obtain ⟨i, hi, hz0, hz1, hz2⟩ := info_parts inf5
  rcases hu with ⟨rfl, rfl⟩ | ⟨b, off, c, rfl, h1, h2, h3⟩ | ⟨ad, rfl, rfl⟩
  rotate_left 2
  · obtain ⟨v', w', hr, k1, k2, _, k4⟩ := run_append_own_at (P := Try.prog) w base 55 ty _ i _ 1 1 und22 hi hz0 hz1 hz2 rfl (by omega) v bs.length (bs.map u8v) hown ad 0 0 [] (by simp) (fun j u hj => by simp at hj) (by simp) (by unfold maxLen; simp at hn; omega) (by simp at hn; omega) hbase
    refine ⟨v', w', hr, ?_, k2, k4⟩
    rw [List.append_nil] at k1 ⊢
    exact k1
  · refine ⟨v, w, run_append_owned_none (P := Try.prog) (w := w) base 55 ty _ i 1 und22 hi v bs.length (bs.map u8v) hown, ?_, World.grownBy.refl _ _, .inl rfl⟩
    rw [List.append_nil]; exact hown
  · obtain ⟨v', w', hr, k1, k2, _, k4⟩ := run_append_own_at (P := Try.prog) w base 55 ty _ i _ 1 1 und22 hi hz0 hz1 hz2 rfl (by omega) v bs.length (bs.map u8v) hown ⟨b, off, none⟩ xs.length c (xs.map u8v) (by simp) (fun j u hj => by
        rw [List.getElem?_map, Option.map_eq_some_iff] at hj
        obtain ⟨y, hy, rfl⟩ := hj
        obtain ⟨hj, rfl⟩ := List.getElem?_eq_some_iff.1 hy
        have hadd : (⟨b, off, none⟩ : Addr).add j = ⟨b, off + j, none⟩ := by unfold Addr.add; split <;> simp_all
        rw [hadd]
        exact h3 j hj) (u8v_cell xs) (by unfold maxLen; omega) (by omega) hbase
    refine ⟨v', w', hr, ?_, k2, k4⟩
    unfold Own
    rw [List.length_append, List.map_append]
    exact k1

theorem aF_len2 (p : PA) (c : UInt8) (hn : p.n.length ≤ 1000000000) (ho : p.o.length ≤ 1000000000) (hx : p.x.length ≤ 1000000000) : (aF p c).length ≤ 1000000100 := by
  have h1 := hEnc_len p.h
  have h2 := hEnc_len p.t
  have k1 := textB_len p.n
  have k2 := textB_len p.o
  have k3 := textB_len p.x
  have p1 := pad_le p.n.length
  have p2 := pad_le p.o.length
  have p3 := pad_le p.x.length
  unfold aF
  repeat' split
  all_goals first | omega | (rw [longB_len]; omega)
theorem aWords_len2 (p : PA) (l : List UInt8) (hn : p.n.length ≤ 1000000000) (ho : p.o.length ≤ 1000000000) (hx : p.x.length ≤ 1000000000) : (aWords l p).length ≤ 1000000100 * l.length := by
  induction l with
  | nil => simp [aWords]
  | cons c l ih =>
    have := aF_len2 p c hn ho hx
    unfold aWords at *
    rw [List.flatMap_cons, List.length_append, List.length_cons]
    omega

theorem KeepB.own {S : Nat → Prop} {w a b : World} {row : Option Nat} (h : KeepB S w a) (k : a.grownBy b row) (hr : ∀ n, row = some n → w.heap.size ≤ n) : KeepB S w b :=
  ⟨k.os.trans h.os, k.tape.trans h.tape, k.output.trans h.output, Nat.le_trans h.size k.size, fun i hi hs => (k.block i (Nat.lt_of_lt_of_le hi h.size) (fun e => by have := hr i e.symm; omega)).trans (h.block i hi hs)⟩

/-- What holds behind these letters: the words lie in the variable at block B, in bytes of the call's own. -/
def IW (W : World) (R B : Nat) (p : PA) (L : Nat) (q : List UInt8) (w : World) : Prop :=
  Blk w R 27 (paC p) ∧ KeepB (fun k => k = B) W w ∧ W.heap.size ≤ L ∧ ∃ v, Blk w B 55 #[v] ∧ Own w W.heap.size v (aWords q p) ∧ v.ownBlock ≠ some L
theorem IW.new {W w w' : World} {R B : Nat} {p : PA} {L : Nat} {q : List UInt8} (h : IW W R B p L q w) (hg : w.grownBy w' none) : IW W R B p L q w' := by
  obtain ⟨h1, h2, h3, v, h4, h5, h6⟩ := h
  exact ⟨h1.new hg, h2.trans (KeepB.new hg), h3, v, h4.new hg, h5.new hg, h6⟩

set_option maxRecDepth 20000 in
set_option maxHeartbeats 2000000 in
theorem step_Write {W w : World} {R B : Nat} {p : PA} {L : Nat} {q : List UInt8} {c : UInt8} (hRB : R ≠ B ∧ R < W.heap.size ∧ B < W.heap.size) (hn : p.n.length ≤ 1000000000) (ho : p.o.length ≤ 1000000000) (hx : p.x.length ≤ 1000000000) (hv : 0 ≤ p.v ∧ p.v < 18446744073709551616) (hc : isL c) (hq : q.length < 100) (h : IW W R B p L q w) (hL : L < w.heap.size) :
    Calls Try.prog 28 #[argV R c, .pointer (some ⟨B, 0, none⟩)] w fun e w' => e = .returned (.tuple #[]) ∧ IW W R B p L (q ++ [c]) w' ∧ w'.heap[L]? = w.heap[L]? := by
  obtain ⟨h1, h2, h3, v, h4, h5, h6⟩ := h
  have HWO := Lib.hid (fun w' (g : w.grownBy w' none) => words_arg (h1.new g) c hc hn ho hx hv)
  have hl1 := aF_len2 p c hn ho hx
  have hl2 := aWords_len2 p q hn ho hx
  have HE : Hid (aWords (q ++ [c]) p = aWords q p ++ aF p c) := Lib.hid (by unfold aWords; rw [List.flatMap_append]; simp)
  have HLE : Hid ((aWords q p).length + (aF p c).length ≤ 140737488355328) := Lib.hid (by omega)
  unfold IW
  rw [HE.out]
  generalize aWords q p = bs at *
  generalize aF p c = xs at *
  obtain ⟨a1, n1, c1, rfl⟩ := h5.bts.shape
  have HA := Lib.hid h1
  have HK := Lib.hid h2
  have HL3 := Lib.hid h3
  have HB := Lib.hid h4
  have HOW := Lib.hid h5
  have HVL := Lib.hid h6
  have HLW := Lib.hid hL
  have HVB : Hid ((Value.slice a1 n1 c1).ownBlock ≠ some B) := Lib.hid (fun e => by have := h5.lt _ e; omega)
  have HVR : Hid ((Value.slice a1 n1 c1).ownBlock ≠ some R) := Lib.hid (fun e => by have := h5.lt _ e; omega)
  have HRB := Lib.hid hRB
  clear h1 h2 h3 h4 h5 h6 hl1 hl2 hn ho hx hv hc hq hL hRB
  go_enter Try.func28, Try.ntmps28
  refine wp_region_noPanic ?_
  refine wp_region_held_drew (S := fun w' => True) (by kernel_rfl) (trivial) (fun hHeld => ?_)
  refine wpAnyH_take (i := 1) (v := ?_) (by simp only [List.getElem?_toArray, List.getElem?_cons_succ, List.getElem?_cons_zero]; rfl) (by kernel_rfl) (by kernel_rfl) (by kernel_rfl) (fun _ _ _ h => h) (Or.inl ⟨by rfl, ?_⟩) (by assumption) ?_
  rotate_left 1
  · intro w hSw; (try dsimp only at hSw); go_simp; all_goals (with_reducible rfl)
  try simp only [Act.put, List.setIfInBounds_toArray, List.set_cons_zero, List.set_cons_succ]
  refine wpAnyH_ready (rs := [0, 2]) (by kernel_rfl) (by simp) ?_
  refine AllReadyH.cons (by simp only [List.getElem?_toArray, List.getElem?_cons_zero]; rfl) (fun K hK => ?_) (AllReadyH.cons (by simp only [List.getElem?_toArray, List.getElem?_cons_succ, List.getElem?_cons_zero]; rfl) (fun K hK => ?_) AllReadyH.nil)
  · have c0 := HB.out.cell (i := 0) (x := .slice a1 n1 c1) rfl
    go_simp
    clear c0
    refine hK.out _ _ (trivial) (fun hHeld => ?_)
    clear hK K
    try simp only [Act.put, List.setIfInBounds_toArray, List.set_cons_zero, List.set_cons_succ]
    refine wpAnyH_ready (rs := [2]) (by kernel_rfl) (by simp) ?_
    refine AllReadyH.cons (by simp only [List.getElem?_toArray, List.getElem?_cons_succ, List.getElem?_cons_zero]; rfl) (fun K hK => ?_) AllReadyH.nil
    go_simp
    refine (HWO.out _ (drew_new _)).mono ?_; rintro e0 w1 ⟨v5, rfl, h6, hg⟩
    obtain ⟨a5, n5, c5, rfl⟩ := h6.bts.shape
    clear hHeld
    have G1 := Lib.hid (World.grownBy.trans (drew_new w) hg)
    have BX := Lib.hid h6.bts
    clear h6 hg
    go_wp2_with fail
    refine hK.out _ _ (trivial) (fun hHeld => ?_)
    clear hK K
    try simp only [Act.put, List.setIfInBounds_toArray, List.set_cons_zero, List.set_cons_succ]
    obtain ⟨v6, w6, hrun, k1, k2, k3⟩ := run_append_bts 55 w1 W.heap.size _ _ _ _ (HOW.out.new G1.out) BX.out HLE.out (by have := HK.out.size; have := G1.out.size; omega)
    obtain ⟨a6, n6, c6, rfl⟩ := k1.bts.shape
    have HRUN := Lib.hid hrun
    have K1 := Lib.hid k1
    have K2 := Lib.hid k2
    have K3 := Lib.hid k3
    have hb6 := (HB.out.new G1.out).kept k2 (fun e => HVB.out e.symm)
    have HB6 := Lib.hid hb6
    clear hrun k1 k2 k3 hb6
    refine wpAnyH_ready (rs := [3]) (by kernel_rfl) (by simp) ?_
    refine AllReadyH.cons (by simp only [List.getElem?_toArray, List.getElem?_cons_succ, List.getElem?_cons_zero]; rfl) (fun K hK => ?_) AllReadyH.nil
    refine Lib.wp_append_run _ _ _ _ _ rfl _ _ rfl rfl _ _ HRUN.out ?_
    refine hK.out _ _ (trivial) (fun hHeld => ?_)
    clear hK K
    try simp only [Act.put, List.setIfInBounds_toArray, List.set_cons_zero, List.set_cons_succ]
    have c0 := HB6.out.cell (i := 0) (x := .slice a1 n1 c1) rfl
    have f0 := HB6.out.frozen 0
    refine wpAnyH_ready (rs := [4]) (by kernel_rfl) (by simp) ?_
    refine AllReadyH.cons (by simp only [List.getElem?_toArray, List.getElem?_cons_succ, List.getElem?_cons_zero]; rfl) (fun K hK => ?_) AllReadyH.nil
    go_simp
    refine hK.out _ _ (trivial) (fun hHeld => ?_)
    clear hK K
    try simp only [Act.put, List.setIfInBounds_toArray, List.set_cons_zero, List.set_cons_succ]
    refine wpAnyH_done (by kernel_rfl) ?_ _
    refine NoPanic.normal ?_
    go_wp2_with fail
    go_end0
    have gs : w6.grownBy (w6.setCell ⟨B, 0, none⟩ (.slice a6 n6 c6)) (some B) := Lib.grownBy_setB (World.grownBy.refl _ _) _ _
    have hw := HRB.out
    have s1 := G1.out.size
    have s2 := HK.out.size
    have s3 := K2.out.size
    have l3 := HL3.out
    have lw := HLW.out
    have nb6 : (Value.slice a6 n6 c6).ownBlock ≠ some B := fun e => by have := K1.out.lt _ e; omega
    have nl6 : (Value.slice a6 n6 c6).ownBlock ≠ some L := fun e => by
      rcases K3.out with k | k
      · exact HVL.out (k ▸ e)
      · rw [k] at e; cases e; omega
    refine ⟨rfl, ⟨((HA.out.new G1.out).kept K2.out (fun e => HVR.out e.symm)).kept gs (by simpa using hw.1), ?_, l3, _, HB6.out.set 0 _, K1.out.kept gs (.inr nb6), nl6⟩, ?_⟩
    · exact ((HK.out.trans (KeepB.new G1.out)).own K2.out (fun n hn => (HOW.out.lt n hn).1)).trans (KeepB.of gs (fun k e => by cases e; rfl))
    · rw [gs.block L (by omega) (by simp; omega), K2.out.block L (by omega) (fun e => HVL.out e.symm), G1.out.block L lw (by simp)]
  · go_simp
    refine (HWO.out _ (drew_new _)).mono ?_; rintro e0 w1 ⟨v5, rfl, h6, hg⟩
    obtain ⟨a5, n5, c5, rfl⟩ := h6.bts.shape
    clear hHeld
    have G1 := Lib.hid (World.grownBy.trans (drew_new w) hg)
    have BX := Lib.hid h6.bts
    clear h6 hg
    go_wp2_with fail
    refine hK.out _ _ (trivial) (fun hHeld => ?_)
    clear hK K
    try simp only [Act.put, List.setIfInBounds_toArray, List.set_cons_zero, List.set_cons_succ]
    have c0 := (HB.out.new G1.out).cell (i := 0) (x := .slice a1 n1 c1) rfl
    refine wpAnyH_ready (rs := [0]) (by kernel_rfl) (by simp) ?_
    refine AllReadyH.cons (by simp only [List.getElem?_toArray, List.getElem?_cons_zero]; rfl) (fun K hK => ?_) AllReadyH.nil
    go_simp
    clear c0
    refine hK.out _ _ (trivial) (fun hHeld => ?_)
    clear hK K
    try simp only [Act.put, List.setIfInBounds_toArray, List.set_cons_zero, List.set_cons_succ]
    obtain ⟨v6, w6, hrun, k1, k2, k3⟩ := run_append_bts 55 w1 W.heap.size _ _ _ _ (HOW.out.new G1.out) BX.out HLE.out (by have := HK.out.size; have := G1.out.size; omega)
    obtain ⟨a6, n6, c6, rfl⟩ := k1.bts.shape
    have HRUN := Lib.hid hrun
    have K1 := Lib.hid k1
    have K2 := Lib.hid k2
    have K3 := Lib.hid k3
    have hb6 := (HB.out.new G1.out).kept k2 (fun e => HVB.out e.symm)
    have HB6 := Lib.hid hb6
    clear hrun k1 k2 k3 hb6
    refine wpAnyH_ready (rs := [3]) (by kernel_rfl) (by simp) ?_
    refine AllReadyH.cons (by simp only [List.getElem?_toArray, List.getElem?_cons_succ, List.getElem?_cons_zero]; rfl) (fun K hK => ?_) AllReadyH.nil
    refine Lib.wp_append_run _ _ _ _ _ rfl _ _ rfl rfl _ _ HRUN.out ?_
    refine hK.out _ _ (trivial) (fun hHeld => ?_)
    clear hK K
    try simp only [Act.put, List.setIfInBounds_toArray, List.set_cons_zero, List.set_cons_succ]
    have c0 := HB6.out.cell (i := 0) (x := .slice a1 n1 c1) rfl
    have f0 := HB6.out.frozen 0
    refine wpAnyH_ready (rs := [4]) (by kernel_rfl) (by simp) ?_
    refine AllReadyH.cons (by simp only [List.getElem?_toArray, List.getElem?_cons_succ, List.getElem?_cons_zero]; rfl) (fun K hK => ?_) AllReadyH.nil
    go_simp
    refine hK.out _ _ (trivial) (fun hHeld => ?_)
    clear hK K
    try simp only [Act.put, List.setIfInBounds_toArray, List.set_cons_zero, List.set_cons_succ]
    refine wpAnyH_done (by kernel_rfl) ?_ _
    refine NoPanic.normal ?_
    go_wp2_with fail
    go_end0
    have gs : w6.grownBy (w6.setCell ⟨B, 0, none⟩ (.slice a6 n6 c6)) (some B) := Lib.grownBy_setB (World.grownBy.refl _ _) _ _
    have hw := HRB.out
    have s1 := G1.out.size
    have s2 := HK.out.size
    have s3 := K2.out.size
    have l3 := HL3.out
    have lw := HLW.out
    have nb6 : (Value.slice a6 n6 c6).ownBlock ≠ some B := fun e => by have := K1.out.lt _ e; omega
    have nl6 : (Value.slice a6 n6 c6).ownBlock ≠ some L := fun e => by
      rcases K3.out with k | k
      · exact HVL.out (k ▸ e)
      · rw [k] at e; cases e; omega
    refine ⟨rfl, ⟨((HA.out.new G1.out).kept K2.out (fun e => HVR.out e.symm)).kept gs (by simpa using hw.1), ?_, l3, _, HB6.out.set 0 _, K1.out.kept gs (.inr nb6), nl6⟩, ?_⟩
    · exact ((HK.out.trans (KeepB.new G1.out)).own K2.out (fun n hn => (HOW.out.lt n hn).1)).trans (KeepB.of gs (fun k e => by cases e; rfl))
    · rw [gs.block L (by omega) (by simp; omega), K2.out.block L (by omega) (fun e => HVL.out e.symm), G1.out.block L lw (by simp)]


section
variable {ops : Array Oper} {rest : List Oper} {o : Oper} {a : Act} {Q : Exit → Act → World → Prop}
/-- Two arguments compared. -/
theorem wpList_neq_args {w : World} (hg : o.guard = none) (x y : Operand) (tt : TypeId) (hop : o.op = Op.binOp .neq 27 x y tt) (p q : PA) (hx : a.eval x = paV p) (hy : a.eval y = paV q)
    (hK : wpList Try.prog ops Q rest (a.put o.dst (.bool (decide (p ≠ q)))) w) : wpList Try.prog ops Q (o :: rest) a w := by
  refine wpList_plain hg fun K' hK' => ?_
  have hrun := neq_args p q w
  have hgd : (eqGuard .neq 27 x y (paV p) (paV q)).run Try.prog w = .ok () w := run_eqGuard_agg (P := Try.prog) w .neq 27 x y (paC p) (paC q) (by kernel_rfl)
  unfold paV at *
  unfold Oper.wp
  simp [execOp, hop, hx, hy, hrun, hgd, Result.andThen]
  exact hK' _ _ (by simpa using hK)
end

set_option maxRecDepth 20000 in
theorem asks_len4 (k : Nat) : (asks k).length ≤ 4 := by
  unfold asks
  split <;> simp
theorem rowAt_len4 (k : Int) : (rowAt asksT k).length ≤ 4 := by
  rw [rowAt_asks]
  split
  · exact asks_len4 _
  · simp
theorem aF_len3 (p : PA) (c : UInt8) (hn : p.n.length ≤ 10000) (ho : p.o.length ≤ 10000) (hx : p.x.length ≤ 10000) : (aF p c).length ≤ 10100 := by
  have h1 := hEnc_len p.h
  have h2 := hEnc_len p.t
  have k1 := textB_len p.n
  have k2 := textB_len p.o
  have k3 := textB_len p.x
  have p1 := pad_le p.n.length
  have p2 := pad_le p.o.length
  have p3 := pad_le p.x.length
  unfold aF
  repeat' split
  all_goals first | omega | (rw [longB_len]; omega)
theorem aWords_len3 (p : PA) (l : List UInt8) (hn : p.n.length ≤ 10000) (ho : p.o.length ≤ 10000) (hx : p.x.length ≤ 10000) : (aWords l p).length ≤ 10100 * l.length := by
  induction l with
  | nil => simp [aWords]
  | cons c l ih =>
    have := aF_len3 p c hn ho hx
    unfold aWords at *
    rw [List.flatMap_cons, List.length_append, List.length_cons]
    omega

/-- What Write makes of what it read of its own words. -/
def cWrite (p : PA) (tx : List UInt8) (b : PA × Int) : List UInt8 × Int := if b.2 ≠ 0 then ([], b.2) else if b.1 ≠ p then ([], 4) else (tx, 0)
theorem cWrite_eq (k : Int) (p : PA) (ok : PAok p) : cWrite p (aWords (rowAt asksT k) p) (aRead k (aWords (rowAt asksT k) p)) = aWrite k p := by
  unfold aWrite aRead
  by_cases hk : 0 ≤ k ∧ k < 19
  · rw [if_pos hk, if_pos hk, rowAt_asks, if_pos hk]
    by_cases hm : aMay (asks k.toNat) p = true
    · rw [if_pos hm, args_back (by omega) hm ok]
      unfold cWrite
      simp
    · rw [if_neg hm]
      obtain ⟨⟨b, e⟩, hb⟩ : ∃ y, aJudge (aRds (asks k.toNat) (aWords (asks k.toNat) p)) = y := ⟨_, rfl⟩
      rw [hb]
      unfold cWrite
      by_cases he : e = 0
      · subst he
        have := (args_onto hb).1
        have hne : b ≠ p := fun e => hm (e ▸ this)
        simp [hne]
      · have he4 : e = 4 := by
          unfold aJudge at hb
          split at hb
          · cases hb; exact absurd rfl he
          · cases hb; rfl
        subst he4
        rfl
  · rw [if_neg hk, if_neg hk]
    rfl

set_option maxRecDepth 20000 in
set_option maxHeartbeats 8000000 in
theorem Write_any (k : Int) (p : PA) (w : World) (ok : PAok p) (hn : p.n.length ≤ 10000) (ho : p.o.length ≤ 10000) (hx : p.x.length ≤ 10000) : Calls Try.prog 10 #[.int .i64 k, paV p] w (TE w (aWrite k p)) := by
  rw [← cWrite_eq k p ok]
  have hl := aWords_len3 p (rowAt asksT k) hn ho hx
  have hl4 := rowAt_len4 k
  have HTX : Hid ((aWords (rowAt asksT k) p).length ≤ 100000) := Lib.hid (by omega)
  have HST := Lib.hid (fun (W : World) (R B : Nat) (hRB : R ≠ B ∧ R < W.heap.size ∧ B < W.heap.size) (L : Nat) (q : List UInt8) (c : UInt8) (w : World) (hc : isL c) (hq : q.length < 100) (h : IW W R B p L q w) (hL : L < w.heap.size) => step_Write hRB (by omega) (by omega) (by omega) ok.1 hc hq h hL)
  have HAS := Lib.hid (fun (R B : Nat) (W : World) => asks_Write k R B (IW W R B p) W)
  have HIW : Hid (∀ W R B L w, IW W R B p L (rowAt asksT k) w → Blk w R 27 (paC p) ∧ KeepB (fun k => k = B) W w ∧ ∃ v, Blk w B 55 #[v] ∧ Own w W.heap.size v (aWords (rowAt asksT k) p)) := Lib.hid (fun W R B L w h => ⟨h.1, h.2.1, _, h.2.2.2.choose_spec.1, h.2.2.2.choose_spec.2.1⟩)
  generalize aWords (rowAt asksT k) p = tx at *
  have HRD := Lib.hid (fun w => Read_any k tx w HTX.out)
  generalize aRead k tx = y at *
  obtain ⟨b, e⟩ := y
  have HZ := Lib.hid (show cWrite p tx (b, e) = cWrite p tx (b, e) from rfl)
  obtain ⟨Z, hZ⟩ : ∃ Z, cWrite p tx (b, e) = Z := ⟨_, rfl⟩
  rw [hZ] at HZ ⊢
  replace HZ := Lib.hid hZ
  clear hZ hl hl4 hn ho hx ok
  obtain ⟨D, hD⟩ : ∃ D, decide (b ≠ p) = D := ⟨_, rfl⟩
  have HD := Lib.hid hD
  clear hD
  have HNIL := Lib.hid (fun (W : World) (R B L : Nat) (h : Blk W R 27 (paC p)) (h2 : Blk W B 55 #[.slice none 0 0]) (hL : W.heap.size ≤ L) => (⟨h, KeepB.refl _ _, hL, _, h2, Own.nil _ _, by simp [Value.ownBlock]⟩ : IW W R B p L [] W))
  unfold PT paV at HRD
  dsimp only at HRD
  show Calls _ _ #[.int .i64 k, .agg (paC p)] w _
  go_enter Try.func10, Try.ntmps10
  go_upto_region 1 with fail
  have hR := Blk.made w 27 (paC p)
  have ga := World.grownBy_alloc w (.cells (paC p) 27) none
  generalize w.alloc (.cells (paC p) 27) = w1 at *
  obtain ⟨R, hRR⟩ : ∃ R, R = w.heap.size := ⟨_, rfl⟩
  rw [← hRR] at hR ⊢
  go_upto_region 2 with fail
  have hB := Blk.made w1 55 #[.slice none 0 0]
  have gb := World.grownBy_alloc w1 (.cells #[.slice none 0 0] 55) none
  have HRB : Hid (R < w1.heap.size ∧ w.heap.size ≤ R) := Lib.hid ⟨hR.lt, by omega⟩
  generalize w1.alloc (.cells #[.slice none 0 0] 55) = w2 at *
  obtain ⟨B, hBB⟩ : ∃ B, w1.heap.size = B := ⟨_, rfl⟩
  rw [hBB] at hB HRB ⊢
  have hR2 := hR.new gb
  have hG := World.grownBy.trans ga gb
  have HD2 : Hid (R ≠ B ∧ R < w2.heap.size ∧ B < w2.heap.size) := Lib.hid ⟨by have := HRB.out; omega, hR2.lt, hB.lt⟩
  have HAS2 := Lib.hid (HAS.out R B w2 (fun L hL => HNIL.out w2 R B L hR2 hB hL) (fun L p w w' h hg => h.new hg) (fun L q c w hc hq h hl => HST.out w2 R B HD2.out L q c w hc hq h hl))
  have HG := Lib.hid hG
  have HR := Lib.hid hR2
  clear hR ga hRR hB gb hBB hR2 hG HAS HNIL HST
  go_wp2_with fail
  refine HAS2.out.mono ?_; rintro e1 w3 ⟨rfl, L, hI⟩
  obtain ⟨i1, i2, v, i3, i4⟩ := HIW.out w2 R B L w3 hI
  have hstr := i4.bts.str und22 und5 und9
  have HR3 := Lib.hid i1
  have HG3 := Lib.hid (KeepB.grown i2 (fun k e => by have := HRB.out; omega) HG.out)
  have HB3 := Lib.hid i3
  obtain ⟨a1, n1, c1, rfl⟩ := i4.bts.shape
  have HO3 := Lib.hid i4
  have c0 := i3.cell (i := 0) (x := .slice a1 n1 c1) rfl
  clear i1 i2 i3 i4 hI HAS2 HIW HR HG
  go_wp2_with fail
  refine (HRD.out w3).mono ?_; rintro e1 w4 ⟨rfl, g4⟩
  have ga := World.grownBy_alloc w4 (.cells #[.int .i64 0, .int .i64 0, .int .i64 0, .int .i64 0, .int .i64 0, .int .i64 0, .string ⟨#[]⟩, .string ⟨#[]⟩, .string ⟨#[]⟩, .int .i64 0, .int .i64 0, .int .i64 0, .int .i64 0, .int .i64 0, .int .i64 0, .int .u64 0] 27) none
  have g5 := setRow_grown (w4.alloc (.cells #[.int .i64 0, .int .i64 0, .int .i64 0, .int .i64 0, .int .i64 0, .int .i64 0, .string ⟨#[]⟩, .string ⟨#[]⟩, .string ⟨#[]⟩, .int .i64 0, .int .i64 0, .int .i64 0, .int .i64 0, .int .i64 0, .int .i64 0, .int .u64 0] 27)) w4.heap.size (paC b)
  have hC := (Blk.made w4 27 #[.int .i64 0, .int .i64 0, .int .i64 0, .int .i64 0, .int .i64 0, .int .i64 0, .string ⟨#[]⟩, .string ⟨#[]⟩, .string ⟨#[]⟩, .int .i64 0, .int .i64 0, .int .i64 0, .int .i64 0, .int .i64 0, .int .i64 0, .int .u64 0]).row (paC b)
  have lR := (HR3.out.new g4).lt
  have lB := (HB3.out.new g4).lt
  have hR5 := ((HR3.out.new g4).new ga).kept g5 (by simp; omega)
  have hB5 := ((HB3.out.new g4).new ga).kept g5 (by simp; omega)
  have hO5 := ((HO3.out.new g4).new ga).kept g5 (.inr (fun e => by have := ((HO3.out.new g4).lt) _ e; omega))
  have hG5 := grown_own (World.grownBy.trans (World.grownBy.trans HG3.out g4) ga) g5 (fun n hn => by cases hn; have := HG3.out.size; have := g4.size; omega)
  have HC := Lib.hid hC
  have HR := Lib.hid hR5
  have HB := Lib.hid hB5
  have HO := Lib.hid hO5
  have HG := Lib.hid hG5
  clear hC hR5 hB5 hO5 hG5 lR lB g4 ga g5 HB3 HO3 HG3 HR3 c0 hstr
  go_upto_region 4 with (refine wpList_store_row rfl 27 (.tmp 7) (.tmp 17) rfl w4.heap.size (paC b) rfl rfl 27 #[.int .i64 0, .int .i64 0, .int .i64 0, .int .i64 0, .int .i64 0, .int .i64 0, .string ⟨#[]⟩, .string ⟨#[]⟩, .string ⟨#[]⟩, .int .i64 0, .int .i64 0, .int .i64 0, .int .i64 0, .int .i64 0, .int .i64 0, .int .u64 0] (Blk.made w4 27 #[.int .i64 0, .int .i64 0, .int .i64 0, .int .i64 0, .int .i64 0, .int .i64 0, .string ⟨#[]⟩, .string ⟨#[]⟩, .string ⟨#[]⟩, .int .i64 0, .int .i64 0, .int .i64 0, .int .i64 0, .int .i64 0, .int .i64 0, .int .u64 0]) (by kernel_rfl) (by kernel_rfl) (by kernel_rfl) ?_)
  generalize (w4.alloc (.cells #[.int .i64 0, .int .i64 0, .int .i64 0, .int .i64 0, .int .i64 0, .int .i64 0, .string ⟨#[]⟩, .string ⟨#[]⟩, .string ⟨#[]⟩, .int .i64 0, .int .i64 0, .int .i64 0, .int .i64 0, .int .i64 0, .int .i64 0, .int .u64 0] 27)).setRow w4.heap.size (paC b) = wE at *
  generalize w4.heap.size = C at *
  have hs := HO.out.bts.str und22 und5 und9
  have c0 := HB.out.cell (i := 0) (x := .slice a1 n1 c1) rfl
  have HBC := HC.out
  unfold Blk at HBC
  have HBC := Lib.hid HBC
  have HBR := HR.out
  unfold Blk at HBR
  have HBR := Lib.hid HBR
  by_cases he : e = 0
  · subst he
    cases D
    · have hbp : b = p := by simpa using HD.out
      have HZ2 : Hid (Z = (tx, 0)) := Lib.hid (by rw [← HZ.out, hbp]; unfold cWrite; simp)
      clear hbp HZ HO
      go_wp2_with (first
        | (refine wpList_load_row rfl 27 (.tmp 7) rfl C rfl 27 (paC b) (0, 0) _ HBC.out Try.underlying27 rfl (by kernel_rfl) ?_; (try go_simp))
        | (refine wpList_load_row rfl 27 (.tmp 3) rfl R rfl 27 (paC p) (0, 0) _ HBR.out Try.underlying27 rfl (by kernel_rfl) ?_; (try go_simp))
        | (refine wpList_neq_args rfl (.tmp 22) (.tmp 23) _ rfl b p rfl rfl ?_; rw [HD.out]; (try go_simp)))
      go_ret2
      exact ⟨by rw [HZ2.out]; rfl, HG.out⟩
    · have hbp : b ≠ p := by simpa using HD.out
      have HZ2 : Hid (Z = ([], 4)) := Lib.hid (by rw [← HZ.out]; unfold cWrite; simp [hbp])
      clear hbp HZ HO
      go_wp2_with (first
        | (refine wpList_load_row rfl 27 (.tmp 7) rfl C rfl 27 (paC b) (0, 0) _ HBC.out Try.underlying27 rfl (by kernel_rfl) ?_; (try go_simp))
        | (refine wpList_load_row rfl 27 (.tmp 3) rfl R rfl 27 (paC p) (0, 0) _ HBR.out Try.underlying27 rfl (by kernel_rfl) ?_; (try go_simp))
        | (refine wpList_neq_args rfl (.tmp 22) (.tmp 23) _ rfl b p rfl rfl ?_; rw [HD.out]; (try go_simp)))
      go_ret2
      exact ⟨by rw [HZ2.out]; rfl, HG.out⟩
  · have HZ2 : Hid (Z = ([], e)) := Lib.hid (by rw [← HZ.out]; unfold cWrite; simp [he])
    have h1 : (e != 0) = true := by simpa using he
    have h2 : (e == 0) = false := by simpa using he
    clear HZ HO HD
    go_wp2_with fail
    go_ret2
    exact ⟨by rw [HZ2.out]; rfl, HG.out⟩

end Go.Proofs.Ytpklgcinijlmmaa
