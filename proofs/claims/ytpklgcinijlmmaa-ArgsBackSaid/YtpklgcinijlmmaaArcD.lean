/- Arguments as words, the code: a field read. -/
import Derived.Test.YtpklgcinijlmmaaArcC
import Derived.Test.YtpklgcinijlmmaaArgE
import Derived.Test.YtpklgcinijlmmaaHanF
import Derived.Deep.RegionHeld3
import Derived.Deep.DeepCutAuto
namespace Go.Proofs.Ytpklgcinijlmmaa
open Go.RowKit

theorem drew_new (w : World) : w.grownBy w.drew none := ⟨rfl, rfl, rfl, Nat.le_refl _, fun _ _ _ => rfl⟩

/-- A field read: the block's cells and the reader's state then. -/
def RF (w : World) (R r : Nat) (g : Option Nat) (t : TypeId) (ys : Array Value) (s : St) (ok : Bool) (e : Ending) (w' : World) : Prop :=
  e = .returned (.bool ok) ∧ Blk w' R t ys ∧ RdrS w' r g s ∧ KeepB (fun k => k = R ∨ k = r) w w'

section
variable {w w1 : World} {R r i : Nat} {g : Option Nat} {t : TypeId} {xs : Array Value} {s s' : St}
theorem RF_end (hB : Blk w1 R t xs) (hr : RdrS w1 r g s') (g1 : KeepB (fun k => k = R ∨ k = r) w w1) (hR : R ≠ r) (hg : g ≠ some R) (u : Value) (ok : Bool) :
    RF w R r g t (xs.setIfInBounds i u) s' ok (.returned (.bool ok)) (w1.setCell ⟨R, i, none⟩ u) := by
  have gs : w1.grownBy (w1.setCell ⟨R, i, none⟩ u) (some R) := Lib.grownBy_setB (World.grownBy.refl _ _) _ _
  exact ⟨rfl, hB.set i u, hr.kept gs (by simpa using hR) (.inr hg), g1.trans (KeepB.of gs (fun k e => by cases e; exact .inl rfl))⟩

set_option maxRecDepth 20000 in
set_option maxHeartbeats 1000000 in
theorem read_int {x : Value} (hb : Blk w R t xs) (hx : xs[i]? = some x) (hr : RdrS w r g s) (hR : R ≠ r) (hg : g ≠ some R) :
    Calls Try.prog 32 #[.pointer (some ⟨r, 0, none⟩), .iface 97 (.pointer (some ⟨R, i, none⟩))] w (RF w R r g t (xs.setIfInBounds i (Value.int .i64 (rInt s).1)) (rInt s).2 true) := by
  have HC := Lib.hid (int_s r g s w hr)
  have HB := Lib.hid hb
  have HX := Lib.hid hx
  have HR := Lib.hid hR
  have HG := Lib.hid hg
  clear hb hx hr hR hg
  generalize (rInt s).1 = u at *
  generalize (rInt s).2 = s' at *
  have t0 := fun (w : World) (v : Value) => ta_0_0 w v
  go_enter Try.func32, Try.ntmps32
  go_wp2_with fail
  refine HC.out.mono ?_; rintro e w1 ⟨rfl, h1, h2⟩
  have hb1 := HB.out.kept h2 (by have := HR.out; simpa using this)
  have c0 := hb1.cell HX.out
  have f0 := hb1.frozen i
  have HB1 := Lib.hid hb1
  have H1 := Lib.hid h1
  have H2 := Lib.hid (KeepB.of (S := fun k => k = R ∨ k = r) h2 (fun k e => by cases e; exact .inr rfl))
  clear hb1 h1 h2
  go_wp2_with fail
  go_ret
  exact RF_end HB1.out H1.out H2.out HR.out HG.out _ _

set_option maxRecDepth 20000 in
set_option maxHeartbeats 1000000 in
theorem read_long {x : Value} (hb : Blk w R t xs) (hx : xs[i]? = some x) (hr : RdrS w r g s) (hR : R ≠ r) (hg : g ≠ some R) :
    Calls Try.prog 32 #[.pointer (some ⟨r, 0, none⟩), .iface 98 (.pointer (some ⟨R, i, none⟩))] w (RF w R r g t (xs.setIfInBounds i (Value.int .u64 (rLong s).1)) (rLong s).2 true) := by
  have HC := Lib.hid (long_s r g s w hr)
  have HB := Lib.hid hb
  have HX := Lib.hid hx
  have HR := Lib.hid hR
  have HG := Lib.hid hg
  clear hb hx hr hR hg
  generalize (rLong s).1 = u at *
  generalize (rLong s).2 = s' at *
  have t0 := fun (w : World) (v : Value) => ta_1_0 w v
  have t1 := fun (w : World) (v : Value) => ta_1_1 w v
  go_enter Try.func32, Try.ntmps32
  go_wp2_with fail
  refine HC.out.mono ?_; rintro e w1 ⟨rfl, h1, h2⟩
  have hb1 := HB.out.kept h2 (by have := HR.out; simpa using this)
  have c0 := hb1.cell HX.out
  have f0 := hb1.frozen i
  have HB1 := Lib.hid hb1
  have H1 := Lib.hid h1
  have H2 := Lib.hid (KeepB.of (S := fun k => k = R ∨ k = r) h2 (fun k e => by cases e; exact .inr rfl))
  clear hb1 h1 h2
  go_wp2_with fail
  go_ret
  exact RF_end HB1.out H1.out H2.out HR.out HG.out _ _

set_option maxRecDepth 20000 in
set_option maxHeartbeats 1000000 in
theorem read_bool {x : Value} (hb : Blk w R t xs) (hx : xs[i]? = some x) (hr : RdrS w r g s) (hR : R ≠ r) (hg : g ≠ some R) :
    Calls Try.prog 32 #[.pointer (some ⟨r, 0, none⟩), .iface 99 (.pointer (some ⟨R, i, none⟩))] w (RF w R r g t (xs.setIfInBounds i (Value.bool (rFlag s).1)) (rFlag s).2 true) := by
  have HC := Lib.hid (flag_s r g s w hr)
  have HB := Lib.hid hb
  have HX := Lib.hid hx
  have HR := Lib.hid hR
  have HG := Lib.hid hg
  clear hb hx hr hR hg
  generalize (rFlag s).1 = u at *
  generalize (rFlag s).2 = s' at *
  have t0 := fun (w : World) (v : Value) => ta_2_0 w v
  have t1 := fun (w : World) (v : Value) => ta_2_1 w v
  have t2 := fun (w : World) (v : Value) => ta_2_2 w v
  go_enter Try.func32, Try.ntmps32
  go_wp2_with fail
  refine HC.out.mono ?_; rintro e w1 ⟨rfl, h1, h2⟩
  have hb1 := HB.out.kept h2 (by have := HR.out; simpa using this)
  have c0 := hb1.cell HX.out
  have f0 := hb1.frozen i
  have HB1 := Lib.hid hb1
  have H1 := Lib.hid h1
  have H2 := Lib.hid (KeepB.of (S := fun k => k = R ∨ k = r) h2 (fun k e => by cases e; exact .inr rfl))
  clear hb1 h1 h2
  go_wp2_with fail
  go_ret
  exact RF_end HB1.out H1.out H2.out HR.out HG.out _ _

set_option maxRecDepth 20000 in
set_option maxHeartbeats 1000000 in
theorem read_errno {x : Value} (hb : Blk w R t xs) (hx : xs[i]? = some x) (hr : RdrS w r g s) (hR : R ≠ r) (hg : g ≠ some R) :
    Calls Try.prog 32 #[.pointer (some ⟨r, 0, none⟩), .iface 104 (.pointer (some ⟨R, i, none⟩))] w (RF w R r g t (xs.setIfInBounds i (Value.int .i64 (rCount 63 s).1)) (rCount 63 s).2 true) := by
  have HC := Lib.hid (count_s r g s 63 w hr)
  have HB := Lib.hid hb
  have HX := Lib.hid hx
  have HR := Lib.hid hR
  have HG := Lib.hid hg
  clear hb hx hr hR hg
  generalize (rCount 63 s).1 = u at *
  generalize (rCount 63 s).2 = s' at *
  have t0 := fun (w : World) (v : Value) => ta_5_0 w v
  have t1 := fun (w : World) (v : Value) => ta_5_1 w v
  have t2 := fun (w : World) (v : Value) => ta_5_2 w v
  have t3 := fun (w : World) (v : Value) => ta_5_3 w v
  have t4 := fun (w : World) (v : Value) => ta_5_4 w v
  have t5 := fun (w : World) (v : Value) => ta_5_5 w v
  go_enter Try.func32, Try.ntmps32
  go_wp2_with fail
  refine HC.out.mono ?_; rintro e w1 ⟨rfl, h1, h2⟩
  have hb1 := HB.out.kept h2 (by have := HR.out; simpa using this)
  have c0 := hb1.cell HX.out
  have f0 := hb1.frozen i
  have HB1 := Lib.hid hb1
  have H1 := Lib.hid h1
  have H2 := Lib.hid (KeepB.of (S := fun k => k = R ∨ k = r) h2 (fun k e => by cases e; exact .inr rfl))
  clear hb1 h1 h2
  go_wp2_with fail
  go_ret
  exact RF_end HB1.out H1.out H2.out HR.out HG.out _ _

set_option maxRecDepth 20000 in
set_option maxHeartbeats 2000000 in
theorem read_text {x : Value} (m : Int) (hb : Blk w R t xs) (hx : xs[i]? = some x) (hr : RdrS w r g s) (hR : R ≠ r) (hg : g ≠ some R) (hlt : r < w.heap.size) :
    Calls Try.prog 32 #[.pointer (some ⟨r, 0, none⟩), .iface 102 (.agg #[.pointer (some ⟨R, i, none⟩), .int .i64 m])] w (RF w R r g t (xs.setIfInBounds i (txt (rText m s).1)) (rText m s).2 true) := by
  have HC := Lib.hid (fun w (hr : RdrS w r g s) => text_s r g s m w hr)
  have ga := World.grownBy_alloc w (.cells #[.pointer (some ⟨R, i, none⟩), .int .i64 m] 102) none
  have hT := Blk.made w 102 #[.pointer (some ⟨R, i, none⟩), .int .i64 m]
  have HB := Lib.hid (hb.new ga)
  have HRD := Lib.hid (hr.new ga)
  have GA := Lib.hid (KeepB.new (S := fun k => k = R ∨ k = r) ga)
  have HTN : Hid (¬ (w.heap.size = R ∨ w.heap.size = r)) := Lib.hid (by have := hb.lt; omega)
  have HX := Lib.hid hx
  have HR := Lib.hid hR
  have HG := Lib.hid hg
  have HTB := Lib.hid hT
  clear hb hx hr hR hg ga hT hlt
  generalize rText m s = q at *
  obtain ⟨tx, s'⟩ := q
  unfold txt
  dsimp only at *
  have t0 := fun (w : World) (v : Value) => ta_3_0 w v
  have t1 := fun (w : World) (v : Value) => ta_3_1 w v
  have t2 := fun (w : World) (v : Value) => ta_3_2 w v
  have t3 := fun (w : World) (v : Value) => ta_3_3 w v
  go_enter Try.func32, Try.ntmps32
  go_upto_region 13 with fail
  generalize w.alloc (.cells #[.pointer (some ⟨R, i, none⟩), .int .i64 m] 102) = w1 at *
  generalize w.heap.size = T at *
  have KEEP : Hid (∀ w', KeepB (fun k => k = R ∨ k = r) w1 w' → w'.cell? ⟨T, 0, none⟩ = some (.pointer (some ⟨R, i, none⟩)) ∧ w'.cell? ⟨T, 1, none⟩ = some (.int .i64 m)) := Lib.hid (fun w' h => ⟨h.cell (HTB.out.cell rfl) HTN.out, h.cell (HTB.out.cell rfl) HTN.out⟩)
  refine wp_region_noPanic ?_
  refine wp_region_held_drew (S := fun w' => w'.cell? ⟨T, 0, none⟩ = some (.pointer (some ⟨R, i, none⟩)) ∧ w'.cell? ⟨T, 1, none⟩ = some (.int .i64 m)) (by kernel_rfl) (KEEP.out _ (KeepB.new (drew_new _))) (fun hHeld => ?_)
  refine wpAnyH_take (i := 0) (v := ?_) (by simp only [List.getElem?_toArray, List.getElem?_cons_zero]; rfl) (by kernel_rfl) (by kernel_rfl) (by kernel_rfl) (fun _ _ _ h => h) (Or.inl ⟨by rfl, ?_⟩) (by assumption) ?_
  rotate_left 1
  · intro w hSw; (try dsimp only at hSw); go_simp; all_goals (with_reducible rfl)
  try simp only [Act.put, List.setIfInBounds_toArray, List.set_cons_zero, List.set_cons_succ]
  refine wpAnyH_take (i := 1) (v := ?_) (by simp only [List.getElem?_toArray, List.getElem?_cons_succ, List.getElem?_cons_zero]; rfl) (by kernel_rfl) (by kernel_rfl) (by kernel_rfl) (fun _ _ _ h => h) (Or.inl ⟨by rfl, ?_⟩) (by assumption) ?_
  rotate_left 1
  · intro w hSw; (try dsimp only at hSw); go_simp; all_goals (with_reducible rfl)
  try simp only [Act.put, List.setIfInBounds_toArray, List.set_cons_zero, List.set_cons_succ]
  refine wpAnyH_take (i := 2) (v := ?_) (by simp only [List.getElem?_toArray, List.getElem?_cons_succ, List.getElem?_cons_zero]; rfl) (by kernel_rfl) (by kernel_rfl) (by kernel_rfl) (fun _ _ _ h => h) (Or.inl ⟨by rfl, ?_⟩) (by assumption) ?_
  rotate_left 1
  · intro w hSw; (try dsimp only at hSw); go_simp; all_goals (with_reducible rfl)
  try simp only [Act.put, List.setIfInBounds_toArray, List.set_cons_zero, List.set_cons_succ]
  refine wpAnyH_take (i := 3) (v := ?_) (by simp only [List.getElem?_toArray, List.getElem?_cons_succ, List.getElem?_cons_zero]; rfl) (by kernel_rfl) (by kernel_rfl) (by kernel_rfl) (fun _ _ _ h => h) (Or.inl ⟨by rfl, ?_⟩) (by assumption) ?_
  rotate_left 1
  · intro w hSw; (try dsimp only at hSw); go_simp; all_goals (with_reducible rfl)
  try simp only [Act.put, List.setIfInBounds_toArray, List.set_cons_zero, List.set_cons_succ]
  refine wpAnyH_take (i := 4) (v := ?_) (by simp only [List.getElem?_toArray, List.getElem?_cons_succ, List.getElem?_cons_zero]; rfl) (by kernel_rfl) (by kernel_rfl) (by kernel_rfl) (fun _ _ _ h => h) (Or.inl ⟨by rfl, ?_⟩) (by assumption) ?_
  rotate_left 1
  · intro w hSw; (try dsimp only at hSw); go_simp; all_goals (with_reducible rfl)
  try simp only [Act.put, List.setIfInBounds_toArray, List.set_cons_zero, List.set_cons_succ]
  refine wpAnyH_ready (rs := [5]) (by kernel_rfl) (by simp) ?_
  refine AllReadyH.cons (by simp only [List.getElem?_toArray, List.getElem?_cons_succ, List.getElem?_cons_zero]; rfl) (fun K hK => ?_) AllReadyH.nil
  go_simp
  refine (HC.out _ (HRD.out.new (drew_new _))).mono ?_; rintro e0 v1 ⟨rfl, h1, h2⟩
  clear hHeld
  have hk := KeepB.trans (KeepB.new (drew_new _)) (KeepB.of (S := fun k => k = R ∨ k = r) h2 (fun k e => by cases e; exact .inr rfl))
  have hb1 := (HB.out.new (drew_new _)).kept h2 (by have := HR.out; simpa using this)
  have c0 := hb1.cell HX.out
  have f0 := hb1.frozen i
  have HB1 := Lib.hid hb1
  have H1 := Lib.hid h1
  have HK := Lib.hid hk
  clear hb1 h1 h2 hk
  go_wp2_with fail
  refine hK.out _ _ (KEEP.out _ HK.out) (fun hHeld => ?_)
  clear hK K
  try simp only [Act.put, List.setIfInBounds_toArray, List.set_cons_zero, List.set_cons_succ]
  refine wpAnyH_take (i := 6) (v := ?_) (by simp only [List.getElem?_toArray, List.getElem?_cons_succ, List.getElem?_cons_zero]; rfl) (by kernel_rfl) (by kernel_rfl) (by kernel_rfl) (fun _ _ _ h => h) (Or.inl ⟨by rfl, ?_⟩) (by assumption) ?_
  rotate_left 1
  · intro w hSw; (try dsimp only at hSw); go_simp; all_goals (with_reducible rfl)
  try simp only [Act.put, List.setIfInBounds_toArray, List.set_cons_zero, List.set_cons_succ]
  refine wpAnyH_ready (rs := [7]) (by kernel_rfl) (by simp) ?_
  refine AllReadyH.cons (by simp only [List.getElem?_toArray, List.getElem?_cons_succ, List.getElem?_cons_zero]; rfl) (fun K hK => ?_) AllReadyH.nil
  go_simp
  refine hK.out _ _ (KEEP.out _ (HK.out.trans (KeepB.of (Lib.grownBy_setB (World.grownBy.refl _ _) _ _) (fun k e => by cases e; exact .inl rfl)))) (fun hHeld => ?_)
  clear hK K
  try simp only [Act.put, List.setIfInBounds_toArray, List.set_cons_zero, List.set_cons_succ]
  refine wpAnyH_done (by kernel_rfl) ?_ _
  refine NoPanic.normal ?_
  go_wp2_with fail
  go_ret
  exact RF_end HB1.out H1.out (GA.out.trans HK.out) HR.out HG.out _ _

set_option maxRecDepth 20000 in
set_option maxHeartbeats 2000000 in
theorem read_handle {x y z : Value} (hb : Blk w R t xs) (hx : xs[i]? = some x) (hy : xs[i + 1]? = some y) (hz : xs[i + 2]? = some z) (hr : RdrS w r g s) (hR : R ≠ r) (hg : g ≠ some R) (hl : (s.getD []).length ≤ 1000000) :
    Calls Try.prog 32 #[.pointer (some ⟨r, 0, none⟩), .iface 105 (.pointer (some ⟨R, i, none⟩))] w (RF w R r g t (((xs.setIfInBounds i (.int .i64 (hRd s).1.1.s)).setIfInBounds (i + 1) (.int .i64 (hRd s).1.1.i)).setIfInBounds (i + 2) (.int .i64 (hRd s).1.1.g)) (hRd s).2 (hRd s).1.2) := by
  have HC := Lib.hid (fixed_s r g s 24 w hr)
  have HLL := Lib.hid (rFixed_le 24 s)
  have HL := Lib.hid hl
  have HB := Lib.hid hb
  have HX := Lib.hid hx
  have HY := Lib.hid hy
  have HZ := Lib.hid hz
  have HR := Lib.hid hR
  have HG := Lib.hid hg
  clear hb hx hr hR hg hy hz hl
  unfold hRd
  generalize rFixed 24 s = q at *
  obtain ⟨tx, s'⟩ := q
  dsimp only at *
  have HD := Lib.hid (fun w => Dec_any tx w (by have := HLL.out.1; have := HL.out; unfold maxLen; omega))
  generalize hDec fnv tx = q at *
  obtain ⟨⟨d1, d2, d3⟩, f⟩ := q
  unfold HT hnV at HD
  dsimp only at *
  have t0 := fun (w : World) (v : Value) => ta_6_0 w v
  have t1 := fun (w : World) (v : Value) => ta_6_1 w v
  have t2 := fun (w : World) (v : Value) => ta_6_2 w v
  have t3 := fun (w : World) (v : Value) => ta_6_3 w v
  have t4 := fun (w : World) (v : Value) => ta_6_4 w v
  have t5 := fun (w : World) (v : Value) => ta_6_5 w v
  have t6 := fun (w : World) (v : Value) => ta_6_6 w v
  go_enter Try.func32, Try.ntmps32
  go_wp2_with fail
  refine HC.out.mono ?_; rintro e w1 ⟨rfl, h1, h2⟩
  have HB1 := Lib.hid (HB.out.kept h2 (by have := HR.out; simpa using this))
  have H1 := Lib.hid h1
  have H2 := Lib.hid (KeepB.of (S := fun k => k = R ∨ k = r) h2 (fun k e => by cases e; exact .inr rfl))
  clear h1 h2
  go_wp2_with fail
  refine (HD.out _).mono ?_; rintro e w2 ⟨rfl, h3⟩
  have HB2 := Lib.hid (HB1.out.new h3)
  have H12 := Lib.hid (H1.out.new h3)
  have H22 := Lib.hid (H2.out.trans (KeepB.new h3))
  clear h3
  have c0 := HB2.out.cell HX.out
  have c1 := HB2.out.cell HY.out
  have c2 := HB2.out.cell HZ.out
  have f0 := HB2.out.frozen i
  have f1 := HB2.out.frozen (i + 1)
  have f2 := HB2.out.frozen (i + 2)
  go_wp2_with fail
  go_ret
  have gs := Lib.grownBy_setB (Lib.grownBy_setB (Lib.grownBy_setB (World.grownBy.refl w2 (some R)) i (.int .i64 d1)) (i + 1) (.int .i64 d2)) (i + 2) (.int .i64 d3)
  exact ⟨rfl, ((HB2.out.set i _).set (i + 1) _).set (i + 2) _, H12.out.kept gs (by have := HR.out; simpa using this) (.inr HG.out), H22.out.trans (KeepB.of gs (fun k e => by cases e; exact .inl rfl))⟩
end
end Go.Proofs.Ytpklgcinijlmmaa
