/- Feed. -/
import Derived.Test.YtahmpgaohjopeaaRange
import Derived.Maps.AppendAt
namespace Go.Proofs.Ytahmpgaohjopeaa
open Go.RowKit Go.Shelf
attribute [local go_sem] Oper.semAt_some

set_option maxHeartbeats 400000 in
theorem feed_nil (u : Value) (c : List UInt8) (w : World) (hu : Bts w u c) : Calls Try.prog 12 #[.pointer none, u] w fun e w' => e = .returned (.tuple #[.slice none 0 0, .int .i64 2]) ∧ w = w' := by
  obtain ⟨a, m, k, rfl⟩ := hu.shape
  go_enter Try.func12, Try.ntmps12
  go_wp2
  go_ret2
  exact ⟨rfl, rfl⟩

set_option maxHeartbeats 400000 in
theorem records_any (r : Nat) (u : Value) (c : List UInt8) (w : World) (hu : Bts w u c) : Calls Try.prog 22 #[.pointer (some ⟨r, 0, none⟩), u] w
    fun e w' => e = .returned (.func (.func 26) #[] #[.pointer (some ⟨w.heap.size + 1, 0, none⟩), .pointer (some ⟨w.heap.size, 0, none⟩)]) ∧ w.grownBy w' none ∧ Blk w' w.heap.size 25 #[.pointer (some ⟨r, 0, none⟩)] ∧ Blk w' (w.heap.size + 1) 30 #[u] := by
  obtain ⟨a, m, k, rfl⟩ := hu.shape
  go_enter Try.func22, Try.ntmps22
  go_wp2
  go_ret
  refine ⟨rfl, World.grownBy.trans (World.grownBy_alloc _ _ _) (World.grownBy_alloc _ _ _), (Blk.made w _ _).new (World.grownBy_alloc _ _ _), ?_⟩
  have h := Blk.made (w.alloc (.cells #[.pointer (some ⟨r, 0, none⟩)] 25)) 30 #[.slice a m k]
  simpa using h

/-- Texts in a row of the call's own. -/
def Texts (W : World) (base : Nat) (v : Value) (xs : List (List UInt8)) : Prop := W.ownsRow base 9 1 v xs.length (xs.map txt)

theorem Texts.nil (w : World) (base : Nat) : Texts w base (.slice none 0 0) [] := World.ownsRow_nil w base _ 1

theorem Texts.blk {W : World} {base : Nat} {v : Value} {xs : List (List UInt8)} (h : Texts W base v xs) : ∀ g, v.ownBlock = some g → base ≤ g ∧ ∃ cur, Blk W g 9 cur := by
  obtain ⟨_, ⟨rfl, _⟩ | ⟨g, cap, cur, rfl, h1, h2, _⟩⟩ := h
  · intro g hg; cases hg
  · intro g' hg'; cases hg'; exact ⟨h1, cur, h2⟩

theorem Texts.of_blk {W W' : World} {base : Nat} {v : Value} {xs : List (List UInt8)} (h : Texts W base v xs) (hb : ∀ g, v.ownBlock = some g → W'.heap[g]? = W.heap[g]?) : Texts W' base v xs := by
  obtain ⟨h0, h1 | ⟨g, cap, cur, rfl, h1, h2, h3⟩⟩ := h
  · exact ⟨h0, .inl h1⟩
  · exact ⟨h0, .inr ⟨g, cap, cur, rfl, h1, (hb g rfl).trans h2, h3⟩⟩

theorem Texts.form {W : World} {base : Nat} {v : Value} {xs : List (List UInt8)} (h : Texts W base v xs) : ∃ a c, v = .slice a xs.length c := by
  obtain ⟨h0, ⟨rfl, h1⟩ | ⟨g, cap, cur, rfl, h1, h2, h3⟩⟩ := h
  · exact ⟨none, 0, by rw [h1]⟩
  · exact ⟨_, _, rfl⟩

theorem Texts.cells {W : World} {base : Nat} {v : Value} {xs : List (List UInt8)} (h : Texts W base v xs) (h0 : 0 < xs.length) : ∃ g c, v = .slice (some ⟨g, 0, none⟩) xs.length c ∧ xs.length ≤ c ∧ ∀ i (hi : i < xs.length), W.cell? ⟨g, i, none⟩ = some (txt xs[i]) := by
  have hh := h
  obtain ⟨_, ⟨rfl, h2⟩ | ⟨g, cap, cur, rfl, h1, h2, h3, _⟩⟩ := h
  · omega
  · refine ⟨g, cap, rfl, h3, fun i hi => ?_⟩
    have := World.ownsRow.cells hh (g := g) rfl i (txt xs[i]) (by simp [List.getElem?_map, List.getElem?_eq_getElem hi])
    rw [Addr.add_mid, Nat.zero_add] at this
    exact this

/-- What the loop's body holds between two rounds. -/
def Coll (n0 : Nat) (told : List (List UInt8)) (W : World) : Prop := ∃ wv, Blk W n0 31 #[wv] ∧ Texts W n0 wv told

theorem Coll.of_blk {W W' : World} {n0 : Nat} {xs : List (List UInt8)} (h : Coll n0 xs W) (hb : ∀ (k : Nat) (ys : Array Value) (t : TypeId) (fr : Nat × Nat), W.heap[k]? = some (Obj.cells ys t fr) → t = 9 ∨ t = 31 → W'.heap[k]? = W.heap[k]?) : Coll n0 xs W' := by
  obtain ⟨wv, h1, h2⟩ := h
  refine ⟨wv, ?_, h2.of_blk fun g hg => ?_⟩
  · unfold Blk at *
    rw [hb n0 _ _ _ h1 (.inr rfl)]; exact h1
  · obtain ⟨_, cur, hc⟩ := h2.blk g hg
    exact hb g _ _ _ hc (.inl rfl)

theorem Coll.putObj {W : World} {n0 k : Nat} {o : Obj} {xs : List (List UInt8)} (h : Coll n0 xs W) (hk : W.heap[k]? = some o) (ho : o.isCells = false) (o' : Obj) : Coll n0 xs (W.putObj k o') :=
  h.of_blk fun j ys t fr hj _ => World.putObj_heap_other (fun e => by subst e; rw [hj] at hk; cases hk; cases ho)

theorem Coll.stp {W W' : World} {n0 r : Nat} {v v' : Value} {s : Ms} {xs : List (List UInt8)} (h : Coll n0 xs W) (hr : RS W r v s) (hs : Stp W r v W' v') : Coll n0 xs W' :=
  h.of_blk fun k ys t fr hk ht => hs.kept.block k (Array.getElem?_eq_some_iff.1 hk).1
    (fun e => by
      subst e
      obtain ⟨_, _, _, _, hb, _, _⟩ := hr
      unfold Blk at hb
      rw [hb] at hk; cases hk
      rcases ht with ht | ht <;> exact absurd ht (by decide))
    (fun e => by
      obtain ⟨_, _, _, _, _, _, hv⟩ := hr
      obtain ⟨cur, hc⟩ := hv.blk k (room_own e.symm)
      unfold Blk at hc
      rw [hc] at hk; cases hk
      rcases ht with ht | ht <;> exact absurd ht (by decide))

theorem other_stp {W W' : World} {r k : Nat} {v v' : Value} {s : Ms} {o : Obj} (hr : RS W r v s) (hs : Stp W r v W' v') (hk : W.heap[k]? = some o) (ho : o.isCells = false) : W'.heap[k]? = some o := by
  rw [hs.kept.block k (Array.getElem?_eq_some_iff.1 hk).1 (fun e => by
      subst e
      obtain ⟨_, _, _, _, hb, _, _⟩ := hr
      unfold Blk at hb
      rw [hb] at hk; cases hk; cases ho) (fun e => by
      obtain ⟨_, _, _, _, _, _, hv⟩ := hr
      obtain ⟨cur, hc⟩ := hv.blk k (room_own e.symm)
      unfold Blk at hc
      rw [hc] at hk; cases hk; cases ho)]
  exact hk

theorem KB.refl (n0 : Nat) (W : World) : KB n0 W W := ⟨rfl, rfl, rfl, Nat.le_refl _, fun _ _ => rfl, fun _ _ _ _ _ _ _ => rfl⟩
theorem KB.trans {n0 : Nat} {A B C : World} (h : KB n0 A B) (k : KB n0 B C) : KB n0 A C :=
  ⟨k.os.trans h.os, k.tape.trans h.tape, k.output.trans h.output, Nat.le_trans h.size k.size, fun i hi => (k.low i hi).trans (h.low i hi),
   fun i xs t fr hi h1 h2 => (k.cells i xs t fr ((h.cells i xs t fr hi h1 h2).trans hi) h1 h2).trans (h.cells i xs t fr hi h1 h2)⟩
theorem KB.putObj {n0 : Nat} (W : World) (k : Nat) (o o' : Obj) (hn : n0 ≤ k) (hk : W.heap[k]? = some o) (ho : o.isCells = false) : KB n0 W (W.putObj k o') :=
  ⟨rfl, rfl, rfl, by simp, fun i hi => World.putObj_heap_other (by omega), fun i xs t fr hi _ _ => World.putObj_heap_other (fun e => by subst e; rw [hi] at hk; cases hk; cases ho)⟩

theorem infS : (Try.prog.info? 9).map (fun i => (i.zero, i.size, i.bytes)) = some (some (.string ⟨#[]⟩), 1, 16) := by kernel_rfl
theorem und31 : Try.prog.underlying 31 = some (.slice 9) := by kernel_rfl

/-- One text more: what the body's three steps leave. -/
theorem coll_step {n0 B : Nat} {W W1 W3 : World} {wv v' : Value} {told : List (List UInt8)} {x : List UInt8} {o : Obj} (hB : Blk W n0 31 #[wv]) (ht : Texts W n0 wv told) (hn : n0 ≤ W.heap.size)
    (hown : W1.ownsRow n0 9 1 v' (told.length + 1) (told.map txt ++ [txt x])) (hg : (W.alloc o).grownBy W1 wv.ownBlock) (hW3 : W3 = W1.setCell ⟨n0, 0, none⟩ v') :
    Keeps B W W3 ∧ KB n0 W W3 ∧ Coll n0 (told ++ [x]) W3 := by
  have hk : ∀ k ob, W.heap[k]? = some ob → (∀ g, wv.ownBlock = some g → k ≠ g) → W1.heap[k]? = some ob := fun k ob hk hne => by
    have hlt := (Array.getElem?_eq_some_iff.1 hk).1
    rw [hg.block k (by simp; omega) (fun e => hne k e.symm rfl), (World.grownBy_alloc W o none).block k hlt (by simp)]
    exact hk
  have h3 : ∀ k ob, W.heap[k]? = some ob → (∀ g, wv.ownBlock = some g → k ≠ g) → k ≠ n0 → W3.heap[k]? = some ob := fun k ob hk1 hne hk0 => by
    rw [hW3, Below.heap_setCell W1 ⟨n0, 0, none⟩ v' k hk0]
    exact hk k ob hk1 hne
  have hne0 : ∀ g, wv.ownBlock = some g → n0 ≠ g := fun g hg => by
    obtain ⟨_, cur, hc⟩ := ht.blk g hg
    exact hB.ne hc (by decide)
  have hB1 : Blk W1 n0 31 #[wv] := hk n0 _ hB hne0
  refine ⟨fun k ob _ hk1 ho => h3 k ob hk1 (fun g hg e => ?_) (fun e => ?_), ⟨?_, ?_, ?_, ?_, fun k hk0 => ?_, fun k xs t fr hk1 h1 h2 => ?_⟩, v', ?_, ?_⟩
  · subst e
    obtain ⟨_, cur, hc⟩ := ht.blk k hg
    unfold Blk at hc
    rw [hc] at hk1; cases hk1; cases ho
  · subst e
    unfold Blk at hB
    rw [hB] at hk1; cases hk1; cases ho
  · rw [hW3]; exact hg.os
  · rw [hW3]; exact hg.tape
  · rw [hW3]; exact hg.output
  · rw [hW3]
    have := hg.size
    have h2 : (W1.setCell ⟨n0, 0, none⟩ v').heap.size = W1.heap.size := by simp [World.setCell]
    rw [h2]
    simp at this
    omega
  · have hlt : k < W.heap.size := by omega
    have := h3 k _ (Array.getElem?_eq_getElem hlt) (fun g hg e => by have := (ht.blk g hg).1; omega) (by omega)
    rw [this, Array.getElem?_eq_getElem hlt]
  · rw [h3 k _ hk1 (fun g hg e => ?_) (fun e => ?_), hk1]
    · subst e
      obtain ⟨_, cur, hc⟩ := ht.blk k hg
      unfold Blk at hc
      rw [hc] at hk1; cases hk1; exact h1 rfl
    · subst e
      unfold Blk at hB
      rw [hB] at hk1; cases hk1; exact h2 rfl
  · rw [hW3]
    have := hB1.set 0 v'
    simpa using this
  · have ht1 : Texts W1 n0 v' (told ++ [x]) := by
      unfold Texts
      simpa using hown
    refine ht1.of_blk fun g hg => ?_
    rw [hW3]
    refine Below.heap_setCell W1 ⟨n0, 0, none⟩ v' g (fun e => ?_)
    obtain ⟨_, cur, hc⟩ := ht1.blk g hg
    exact hB1.ne hc (by decide) e.symm

theorem StpN.of_new {w w' : World} {r : Nat} {v : Value} {s : Ms} (h : RS w r v s) (hg : w.grownBy w' none) : StpN w.heap.size w r v w' v :=
  ⟨hg.os, hg.tape, hg.output, hg.size, fun k hk _ _ => hg.block k hk (by simp), fun g _ hg0 i _ => World.cell?_of_block (a := ⟨g, i, none⟩) (hg.block g hg0 (by simp)), fun g cur _ _ hb => ⟨cur, hb.new hg, Nat.le_refl _⟩, fun e => (h.lt' r e).2 rfl, .inr (.inl ⟨rfl, Nat.le_refl _⟩), .inr (.inl rfl)⟩

theorem StpN.grown {w0 w w' : World} {r : Nat} {v v' : Value} (h : StpN w.heap.size w r v w' v') (h0 : w0.grownBy w none) (hr : w0.heap.size ≤ r) (hv : ∀ g, room v = some g → w0.heap.size ≤ g) : w0.grownBy w' none :=
  ⟨h.os.trans h0.os, h.tape.trans h0.tape, h.output.trans h0.output, Nat.le_trans h0.size h.size, fun k hk _ => (h.block k (Nat.lt_of_lt_of_le hk h0.size) (by omega) (fun e => by have := hv k e.symm; omega)).trans (h0.block k hk (by simp))⟩

/-- What Feed leaves. -/
def Fed (w : World) (r : Nat) (v : Value) (s : Ms) (c : List UInt8) (e : Ending) (w' : World) : Prop :=
  ∃ v' a, e = .returned (.tuple #[a, .int .i64 (if (s.run c).1.shut = true then 40 else 0)]) ∧ RS w' r v' (s.run c).1 ∧ StpN w.heap.size w r v w' v' ∧ Texts w' w.heap.size a (s.run c).2

set_option maxHeartbeats 1600000 in
theorem feed_in (r : Nat) (v u : Value) (s : Ms) (c : List UInt8) (w : World) (hr : RS w r v s) (hok : s.Ok false) (hcm : s.came + c.length ≤ 4611686018427387904) (hcl : c.length ≤ 1000000000000) (hu : Bts w u c) (hap : Apart c u v r w.heap.size) :
    CallsIn Fence.wide 4 Try.prog 12 #[.pointer (some ⟨r, 0, none⟩), u] w (Fed w r v s c) := by
  have HU := Lib.hid hu
  have HR := Lib.hid hr; have HAP := Lib.hid hap
  obtain ⟨a, m, k, rfl⟩ := hu.shape
  clear hu hr hap
  refine callsIn_of_wp_marks Try.func12 rfl trivial ?_ rfl
  simp only [Try.ntmps12, List.size_toArray, List.length_cons, List.length_nil, Nat.reduceAdd, Nat.reduceSub, Array.replicate_succ, Array.replicate_zero, List.push_toArray, List.append_toArray, List.nil_append, List.cons_append]
  gi_wp2_with fail
  refine ⟨trivial, (callsIn_wide.2 (records_any r _ c _ (HU.out.new (World.grownBy_alloc _ _ _)))).mono ?_⟩
  rintro e w2 ⟨rfl, h1, h2, h3⟩
  have hB : Blk w2 w.heap.size 31 #[.slice none 0 0] := (Blk.made w _ _).new h1
  have hgw : w.grownBy w2 none := World.grownBy.trans (World.grownBy_alloc _ _ _) h1
  have H1 := Lib.hid hgw; have H2 := Lib.hid h2; have H3 := Lib.hid h3; have HB := Lib.hid hB
  clear h1 h2 h3 hB hgw
  simp only [World.size_alloc] at H2 H3
  gi_wp2_with fail
  refine range_law (by omega) (gf := 26) (lb := #[.pointer (some ⟨w.heap.size + 1 + 1, 0, none⟩), .pointer (some ⟨w.heap.size + 1, 0, none⟩)]) rfl (enters_of Try.func26 (by kernel_rfl) rfl)
    txt (Coll w.heap.size) (fun xs W => xs = (s.run c).2 ∧ ∃ v', RS W r v' (s.run c).1 ∧ StpN w.heap.size w r v W v') (fun pre x => x.length ≤ 4096 ∧ pre.length < c.length) (KB w.heap.size)
    (fun x => { tmps := #[.pointer (some ⟨r, 0, none⟩), .slice a m k, undef, undef, .slice none 0 0, .int .i64 0, .pointer (some ⟨w.heap.size, 0, none⟩), txt x, .pointer (some ⟨r, 0, none⟩), .bool false, .pointer (some ⟨r, 0, none⟩), .slice a m k,
      .func (.func 26) #[] #[.pointer (some ⟨w.heap.size + 1 + 1, 0, none⟩), .pointer (some ⟨w.heap.size + 1, 0, none⟩)], txt x, undef, undef, undef, undef, undef, undef, undef, undef, undef, undef], defers := [] })
    ?h0 ?hI ?hKt ?hKb ?hassign ?hbody ?hseq ?hdone
  case h0 => exact fun o => ⟨_, (HB.out.new (World.grownBy_alloc _ _ _)).new (World.grownBy_alloc _ _ _), Texts.nil _ _⟩
  case hI => exact fun xs W k o o' h _ hk ho => h.putObj hk ho o'
  case hKt => exact fun h k => KB.trans h k
  case hKb => exact fun W k o o' hk h ho => KB.putObj W k o o' (Nat.le_trans H1.out.size hk) h ho
  case hassign =>
    intro l x W K hK
    gi_wp2
    exact hK
  case hbody =>
    rintro l pre x W ⟨wv, hb, ht⟩ ⟨hx, hlen⟩
    have hsz : w.heap.size ≤ W.heap.size := Nat.le_of_lt hb.lt
    have hc := hb.cell (i := 0) (x := wv) rfl
    have hf := hb.frozen 0
    obtain ⟨i0, hi, hz0, hz1, hz2⟩ := info_parts infS
    obtain ⟨aw, cw, rfl⟩ := ht.form
    have hne : some w.heap.size ≠ (Value.slice aw pre.length cw).ownBlock := fun e => by
      obtain ⟨_, cur, hc'⟩ := ht.blk _ e.symm
      exact hb.ne hc' (by decide) rfl
    have HBL := Lib.hid hb; have HTX := Lib.hid ht; have HNE := Lib.hid hne
    clear hb hne
    simp only [txt]
    gi_wp2_with (gi_at_builtin; refine wpListIn_append_own _ rfl _ _ 31 rfl w.heap.size 9 i0 _ 1 16 und31 hi hz0 hz1 hz2 rfl (by decide) _ _ _ rfl (World.ownsRow.alloc HTX.out _) ⟨W.heap.size, 0, none⟩ 1 1 [.string ⟨x.toArray⟩] rfl rfl (cell_one_new _ _ _) (by simp [Value.oneCell']) (by unfold maxLen; omega) (by omega) (by simp; omega) ?_; intro v' w1 hown' hgrow _; obtain ⟨g', cap', rfl⟩ := ownsRow_succ hown'; have hb1 := (HBL.out.new (World.grownBy_alloc _ _ _)).kept hgrow HNE.out; have hc1 := hb1.cell (i := 0) rfl; have hf1 := hb1.frozen 0; have HB1 := Lib.hid hb1; have HOWN := Lib.hid hown'; have HGR := Lib.hid hgrow; clear hb1 hown' hgrow)
    exact coll_step HBL.out HTX.out hsz HOWN.out HGR.out rfl
  case hseq =>
    intro o ho hround
    have g1 : w2.grownBy ((w2.alloc (.deferred (some []))).alloc o) none := World.grownBy.trans (World.grownBy_alloc _ _ _) (World.grownBy_alloc _ _ _)
    have g2 := World.grownBy.trans H1.out g1
    refine (iter_any w.heap.size (w2.heap.size + 1) r (w.heap.size + 1 + 1) (w.heap.size + 1) v _ s c (Between w2 o (Coll w.heap.size)) ⟨?_, ?_⟩ _ g2.size (HR.out.new g2) hok hcm (HU.out.new g2) HAP.out (H3.out.new g1) (H2.out.new g1) ?_).mono ?_
    · rintro told W W' v1 v2 s1 ⟨hi, hl, hd⟩ hr hs
      exact ⟨hi.stp hr hs, other_stp hr hs hl ho, other_stp hr hs hd rfl⟩
    · intro told x W v1 s1 hJ _ hx hlen
      exact hround told x W hJ ⟨hx, hlen⟩
    · refine ⟨⟨_, (HB.out.new (World.grownBy_alloc _ _ _)).new (World.grownBy_alloc _ _ _), Texts.nil _ _⟩, ?_, ?_⟩
      · have := World.alloc_heap_new (w2.alloc (.deferred (some []))) o
        simpa using this
      · have := (World.grownBy_alloc (w2.alloc (.deferred (some []))) o none).block w2.heap.size (by simp) (by simp)
        rw [this]
        exact World.alloc_heap_new w2 _
    · rintro e W' ⟨hx, v', hrs, hst, hJ⟩
      exact ⟨hx, _, hJ, rfl, v', hrs, (StpN.of_new HR.out g2).trans hst⟩
  case hdone =>
    rintro xs W o o' ⟨rfl, v', hr, hst⟩ hI hl ho hD
    have hle : w.heap.size ≤ w2.heap.size := H1.out.size
    have kb := KB.putObj W _ o o' (Nat.le_succ_of_le hle) hl ho
    have hst2 := hst.trans (kb.stp hr)
    have hr2 := kb.rs hr
    obtain ⟨wv, hb, ht⟩ := hI.putObj hl ho o'
    have hD2 : (W.putObj (w2.heap.size + 1) o').heap[w2.heap.size]? = some (.deferred (some [])) := (World.putObj_heap_other (by omega)).trans hD
    clear hst hr kb hI hl hD
    generalize W.putObj (w2.heap.size + 1) o' = W2 at *
    obtain ⟨aw, cw, rfl⟩ := ht.form
    have hc := hb.cell (i := 0) (x := .slice aw (s.run c).2.length cw) rfl
    have h9 : W2.cell? ⟨r, 9, none⟩ = some (.bool (s.run c).1.shut) := by
      obtain ⟨_, _, _, _, hb', _, _⟩ := hr2
      exact hb'.cell (i := 9) rfl
    have kb3 := KB.putObj W2 _ _ (.deferred none) hle hD2 rfl
    have fin := fun e he => (⟨v', .slice aw (s.run c).2.length cw, he, kb3.rs hr2, hst2.trans (kb3.stp hr2), ht.of_blk fun g hg => World.putObj_heap_other (fun e => by
      subst e
      obtain ⟨_, cur, hc'⟩ := ht.blk _ hg
      unfold Blk at hc'
      rw [hD2] at hc'; cases hc')⟩ : Fed w r v s c e (W2.putObj w2.heap.size (.deferred none)))
    have FIN := Lib.hid fin; have HD2 := Lib.hid hD2
    clear fin kb3 hst2 hr2 hb ht hD2
    by_cases hsh : (s.run c).1.shut = true
    · have HSH := Lib.hid hsh
      rw [hsh] at h9
      gi_wp2
      refine ⟨by simp, .inl ⟨_, _, rfl, run_takeDeferred HD2.out, ?_⟩⟩
      exact ⟨_, results_tmp2 rfl _ _ _, FIN.out _ (by rw [HSH.out]; rfl)⟩
    · have hsh' : (s.run c).1.shut = false := by simpa using hsh
      have HSH := Lib.hid hsh'
      rw [hsh'] at h9
      gi_wp2
      refine ⟨by simp, .inl ⟨_, _, rfl, run_takeDeferred HD2.out, ?_⟩⟩
      exact ⟨_, results_tmp2 rfl _ _ _, FIN.out _ (by rw [HSH.out]; rfl)⟩

theorem feed_any (r : Nat) (v u : Value) (s : Ms) (c : List UInt8) (w : World) (hr : RS w r v s) (hok : s.Ok false) (hcm : s.came + c.length ≤ 4611686018427387904) (hcl : c.length ≤ 1000000000000) (hu : Bts w u c) (hap : Apart c u v r w.heap.size) :
    Calls Try.prog 12 #[.pointer (some ⟨r, 0, none⟩), u] w (Fed w r v s c) := callsIn_wide.1 (feed_in r v u s c w hr hok hcm hcl hu hap)
end Go.Proofs.Ytahmpgaohjopeaa
