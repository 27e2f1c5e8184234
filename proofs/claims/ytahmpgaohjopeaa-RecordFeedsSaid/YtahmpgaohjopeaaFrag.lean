/- fragment. -/
import Derived.Test.YtahmpgaohjopeaaNumb
import Derived.Test.YtahmpgaohjopeaaApp
import Derived.Deep.RegionLaw
namespace Go.Proofs.Ytahmpgaohjopeaa
open Go.RowKit

theorem step_append_run {ops : Array Oper} {o : Oper} {a : Act} {w : World} {K : Act → World → Prop} {Q : Exit → Act → World → Prop} {E : Prop} (hgd : o.guard = none) (s x : Operand) (t tn : TypeId)
    (ho : o.op = .call { callee := .builtin .append, args := #[s, x], argTypes := #[t, tn] }) (vs vx : Value) (hs : a.eval s = vs) (hx : a.eval x = vx) {v' : Value} {w' : World}
    (hr : (Builtin.append_ #[t, tn] o.type #[vs, vx]).run Try.prog w = .ok v' w') (h : K (a.put o.dst v') w') :
    if Region.wanted o (yielded ops a.tmps) = true then Oper.wp Try.prog o a w K Q else E := by
  have hw : Region.wanted o (yielded ops a.tmps) = true := by simp [Region.wanted, hgd]
  rw [if_pos hw]
  exact Lib.wp_append_run w s x t tn ho vs vx hs hx v' w' hr h

theorem cut_upto (u : Value) (w : World) (bs : List UInt8) (hu : Bts w u bs) (k : Nat) (hk : k ≤ bs.length) :
    ∃ a c, (∀ w, (Instr.slice 30 u none (some (.int .i64 (k : Int))) none).run Try.prog w = .ok (.slice a k c) w) ∧ ((Value.slice a k c).ownBlock = none ∨ (Value.slice a k c).ownBlock = u.ownBlock) ∧ ∀ w, Bts w u bs → Bts w (.slice a k c) (bs.take k) := by
  rcases hu with ⟨rfl, rfl⟩ | ⟨b, o, c, rfl, h1, h2, h3⟩ | ⟨a, rfl, rfl⟩
  · obtain rfl : k = 0 := by simpa using hk
    refine ⟨none, 0, fun w => ?_, .inl rfl, fun w _ => Bts.nil w⟩
    simp [Instr.slice, Instr.sliceBounds, Instr.sliceBound, run_underlying und22, siz5, asIntOf, go_sem]
  · have hkc : ¬ c < k := by omega
    refine ⟨some ⟨b, o, none⟩, c, fun w => ?_, .inr rfl, fun w hw => ?_⟩
    · simp [Instr.slice, Instr.sliceBounds, Instr.sliceBound, run_underlying und22, siz5, asIntOf, go_sem, hkc, Addr.add]
    · by_cases h0 : bs.length = 0
      · obtain rfl : k = 0 := by omega
        exact .inr (.inl ⟨b, o, c, by simp, by simp, h2, fun i hi => by simp at hi⟩)
      · obtain ⟨b', o', c', e, hc, _⟩ := hw.at (by omega)
        cases e
        exact .inr (.inl ⟨b, o, c, by rw [List.length_take, Nat.min_eq_left hk], by rw [List.length_take]; omega, h2, hc.take k⟩)
  · obtain rfl : k = 0 := by simpa using hk
    refine ⟨some a, 0, fun w => ?_, .inr rfl, fun w _ => .inr (.inr ⟨a, rfl, by simp⟩)⟩
    simp [Instr.slice, Instr.sliceBounds, Instr.sliceBound, run_underlying und22, siz5, asIntOf, go_sem, Addr.add]

theorem cut_past (u : Value) (w : World) (bs : List UInt8) (hu : Bts w u bs) (k : Nat) (hk : k ≤ bs.length) :
    ∃ a c, (∀ w, (Instr.slice 30 u (some (.int .i64 (k : Int))) none none).run Try.prog w = .ok (.slice a (bs.length - k) c) w) ∧ ((Value.slice a (bs.length - k) c).ownBlock = none ∨ (Value.slice a (bs.length - k) c).ownBlock = u.ownBlock) ∧ ∀ w, Bts w u bs → Bts w (.slice a (bs.length - k) c) (bs.drop k) := by
  rcases hu with ⟨rfl, rfl⟩ | ⟨b, o, c, rfl, h1, h2, h3⟩ | ⟨a, rfl, rfl⟩
  · obtain rfl : k = 0 := by simpa using hk
    refine ⟨none, 0, fun w => ?_, .inl rfl, fun w _ => Bts.nil w⟩
    simp [Instr.slice, Instr.sliceBounds, Instr.sliceBound, run_underlying und22, siz5, asIntOf, go_sem]
  · obtain ⟨a2, c2, e, ho, hb⟩ := cut_from b o k bs.length c hk h1 h2
    refine ⟨a2, c2, e, ho, fun w hw => ?_⟩
    by_cases h0 : bs.length = 0
    · obtain rfl : bs = [] := List.eq_nil_of_length_eq_zero h0
      exact hb w [] rfl (fun i hi => by simp at hi)
    · obtain ⟨b', o', c', e, hc, _⟩ := hw.at (by omega)
      cases e
      exact hb w bs rfl hc
  · obtain rfl : k = 0 := by simpa using hk
    refine ⟨some a, 0, fun w => ?_, .inr rfl, fun w _ => .inr (.inr ⟨a, rfl, by simp⟩)⟩
    simp [Instr.slice, Instr.sliceBounds, Instr.sliceBound, run_underlying und22, siz5, asIntOf, go_sem, Addr.add]

theorem own_lt {w : World} {u : Value} {c : List UInt8} (hu : Bts w u c) (hc : c ≠ []) : ∀ g, u.ownBlock = some g → g < w.heap.size := by
  have hpos : 0 < c.length := by cases c with
    | nil => exact absurd rfl hc
    | cons x l => simp
  obtain ⟨g, o, k, rfl, hcell, _⟩ := hu.at hpos
  intro g' hg'
  cases hg'
  exact World.block_lt_of_cell? w _ (hcell 0 hpos)

/-- What a step of a reader leaves. -/
structure Stp (w : World) (r : Nat) (v : Value) (w' : World) (v' : Value) : Prop where
  kept : Kept w w' r v
  next : Next w v v'
  frm : From w v v'

theorem Stp.refl {w : World} {r : Nat} {v : Value} {s : Ms} (h : RS w r v s) : Stp w r v w v := ⟨Kept.of_grown (World.grownBy.refl _ _) h.lt', Next.refl w v, From.refl w v⟩
theorem Stp.trans {w w1 w2 : World} {r : Nat} {v v1 v2 : Value} (h : Stp w r v w1 v1) (k : Stp w1 r v1 w2 v2) : Stp w r v w2 v2 :=
  ⟨h.kept.trans h.next k.kept, h.next.trans k.next h.kept.size, h.frm.trans k.frm h.kept.size⟩
/-- A step that turned the reader's block alone. -/
theorem Stp.of_grown {w w' : World} {r : Nat} {v v' : Value} {s : Ms} (h : RS w r v s) (hg : w.grownBy w' (some r)) (hv : v' = v ∨ v' = .slice none 0 0) : Stp w r v w' v' := by
  refine ⟨Kept.of_grown hg h.lt', ?_, ?_⟩ <;> rcases hv with rfl | rfl
  · exact Next.refl _ _
  · exact Next.nil _ _
  · exact From.refl _ _
  · exact From.nil _ _

/-- Bytes were appended, and the reader's block was turned. -/
theorem Stp.tail {w w4 w' : World} {r : Nat} {v v4 : Value} {s : Ms} {bs : List UInt8} {xs : Array Value} (h : RS w r v s) (hak : AKept w w4 v v4) (hb : Body w4 v4 bs) (hk : Blk w4 r 48 xs) (hg : w4.grownBy w' (some r)) : Stp w r v w' v4 := by
  have hlt : ∀ g, room v4 = some g → g < w4.heap.size ∧ g ≠ r := fun g hg => by
    obtain ⟨cur, hc⟩ := hb.blk g (room_own hg)
    exact ⟨hc.lt, hc.ne hk (by decide)⟩
  exact Stp.trans ⟨hak.kept h.lt', hak.next, hak.frm⟩ ⟨Kept.of_grown hg hlt, Next.refl _ _, From.refl _ _⟩

theorem Body.turned {w4 w' : World} {r : Nat} {v4 : Value} {bs : List UInt8} {xs : Array Value} (hb : Body w4 v4 bs) (hk : Blk w4 r 48 xs) (hg : w4.grownBy w' (some r)) : Body w' v4 bs := by
  refine hb.kept hg ?_
  rcases hob : v4.ownBlock with _ | g
  · exact .inl rfl
  · obtain ⟨cur, hc⟩ := hb.blk g hob
    exact .inr (by simpa using hc.ne hk (by decide))

/-- Bytes elsewhere stay. -/
theorem Bts.stp {w w' : World} {r : Nat} {v v' u : Value} {bs : List UInt8} (h : Bts w u bs) (hs : Stp w r v w' v') (h1 : u.ownBlock ≠ some r) (h2 : u.ownBlock = none ∨ u.ownBlock ≠ v.ownBlock) : Bts w' u bs := by
  rcases h with h | ⟨b, o, c, rfl, q1, q2, q3⟩ | h
  · exact .inl h
  · refine .inr (.inl ⟨b, o, c, rfl, q1, q2, fun i hi => ?_⟩)
    have hc := q3 i hi
    have hlt := World.block_lt_of_cell? w _ hc
    have e := hs.kept.block b hlt (by simpa [Value.ownBlock] using h1) (fun e => by
      rcases h2 with h2 | h2
      · simp [Value.ownBlock] at h2
      · exact h2 (room_own e.symm).symm)
    rw [World.cell?_of_block (a := ⟨b, o + i, none⟩) e]
    exact hc
  · exact .inr (.inr h)

/-- Bytes far from a reader stay far, behind a step. -/
theorem far_stp {w w' : World} {r : Nat} {v v' u : Value} (hs : Stp w r v w' v') (h2 : u.ownBlock = none ∨ u.ownBlock ≠ v.ownBlock) (hlt : ∀ g, u.ownBlock = some g → g < w.heap.size) : u.ownBlock = none ∨ u.ownBlock ≠ v'.ownBlock := by
  rcases hu : u.ownBlock with _ | g
  · exact .inl rfl
  · refine .inr fun e => ?_
    rcases hs.frm with h | h | h
    · rw [h] at e; cases e
    · rcases h2 with h2 | h2
      · rw [hu] at h2; cases h2
      · exact h2 (by rw [hu, e, h])
    · have := h g e.symm
      have := hlt g hu
      omega

def Fragd (w : World) (r : Nat) (v u : Value) (s : Ms) (rest : List UInt8) (wh : Bool) (e : Ending) (w' : World) : Prop :=
  ∃ v' u', e = .returned (.tuple #[u', .bool wh]) ∧ RS w' r v' s ∧ Bts w' u' rest ∧ Stp w r v w' v' ∧ (u'.ownBlock = none ∨ u'.ownBlock = u.ownBlock)

set_option maxHeartbeats 800000 in
theorem frag_short (r : Nat) (v u : Value) (s : Ms) (c : List UInt8) (w : World) (hr : RS w r v s) (hok : s.Ok false) (hcm : s.came + c.length ≤ 4611686018427387904) (hu : Bts w u c) (hc : c ≠ []) (hur : u.ownBlock ≠ some r) (hl : (s.num c).1.hd.length < 4) :
    Calls Try.prog 27 #[.pointer (some ⟨r, 0, none⟩), u] w (Fragd w r v u (s.num c).1 (s.num c).2 false) := by
  have HN := Lib.hid (rnumber_any r v u s c w hr hok hcm hu hc hur)
  have HR := Lib.hid hr
  obtain ⟨a, m, k, rfl⟩ := hu.shape
  have hl2 : ((s.num c).1.hd.length : Int) < 4 := by omega
  clear hr hu hl
  go_enter Try.func27, Try.ntmps27
  go_wp2_with fail
  refine HN.out.mono ?_; rintro e w2 ⟨v2, u2, rfl, p1, p2, p3, p4, p5⟩
  have P1 := Lib.hid p1; have P2 := Lib.hid p2; have P3 := Lib.hid p3; have P4 := Lib.hid p4; have P5 := Lib.hid p5
  obtain ⟨a2, m2, k2, rfl⟩ := p2.shape
  obtain ⟨h0, h1, h2, h3, hblk, ht, hv⟩ := p1
  have c4 := hblk.cell (i := 4) (x := .int .i64 (s.num c).1.hd.length) rfl
  clear hblk ht hv p2 p3 p4 p5
  generalize (s.num c).1.hd.length = n at *
  go_wp2_with fail
  go_ret2
  exact ⟨v2, _, rfl, P1.out, P2.out, Stp.of_grown HR.out P3.out P4.out, P5.out⟩


set_option maxHeartbeats 1600000 in
theorem frag_part (r : Nat) (v u : Value) (s s2 : Ms) (c y : List UInt8) (w : World) (hr : RS w r v s) (hok : s.Ok false) (hcm : s.came + c.length ≤ 4611686018427387904) (hu : Bts w u c) (hc : c ≠ []) (hur : u.ownBlock ≠ some r)
    (huv : u.ownBlock = none ∨ u.ownBlock ≠ v.ownBlock) (h2 : s.num c = (s2, y)) (h4 : s2.hd.length = 4) (hl : y.length < s2.left) (hb : s2.body.length + s2.left ≤ 4096) (hc2 : s2.came + y.length ≤ 4611686018427387904) :
    Calls Try.prog 27 #[.pointer (some ⟨r, 0, none⟩), u] w (Fragd w r v u { s2 with body := s2.body ++ y, left := s2.left - y.length, came := s2.came + y.length } [] false) := by
  have hN := rnumber_any r v u s c w hr hok hcm hu hc hur
  rw [h2] at hN
  have HN := Lib.hid hN; clear hN h2
  have HR := Lib.hid hr
  have HU := Lib.hid hu
  have hult := own_lt hu hc
  have HUL := Lib.hid hult
  obtain ⟨a, m, k, rfl⟩ := hu.shape
  have HF := Lib.hid huv
  clear hr hu hult huv
  go_enter Try.func27, Try.ntmps27
  go_wp2_with fail
  refine HN.out.mono ?_; rintro e w2 ⟨v2, u2, rfl, p1, p2, p3, p4, p5⟩
  have hst := Stp.of_grown HR.out p3 p4
  have hur2 : u2.ownBlock ≠ some r := by
    rcases p5 with p5 | p5
    · rw [p5]; simp
    · rw [p5]; exact hur
  have hfar : u2.ownBlock = none ∨ u2.ownBlock ≠ v2.ownBlock := by
    rcases p5 with p5 | p5
    · exact .inl p5
    · rw [p5]; exact far_stp hst HF.out HUL.out
  have P1 := Lib.hid p1; have P2 := Lib.hid p2; have P5 := Lib.hid p5; have HS := Lib.hid hst
  obtain ⟨a2, k2, rfl, _, hk2⟩ := p2.form
  obtain ⟨a3, k3, e3, ho3, hb3⟩ := cut_upto _ w2 y p2 y.length (Nat.le_refl _)
  have hb3' := hb3 w2.drew (p2.new (drew_grown _ none))
  rw [List.take_length] at hb3'
  obtain ⟨h0, h1, h2, h3, hblk, ht, hv⟩ := p1
  obtain ⟨v4, w4, hrun, hbody, hak⟩ := run_append_body w2.drew v2 _ s2.body y (hv.kept (drew_grown _ none) (by cases v2.ownBlock <;> simp)) hb3' (by omega) 30
  have hak := hak.drew
  have hrm : room v2 ≠ some r := fun e => ((RS.lt' P1.out) r e).2 rfl
  have hblk4 : Blk w4 r 48 #[u8v h0, u8v h1, u8v h2, u8v h3, .int .i64 s2.hd.length, .int .i64 s2.left, .bool s2.last, v2, .int .i64 s2.came, .bool s2.shut] := by
    unfold Blk at *
    rw [hak.block r (Blk.lt hblk) (fun e => hrm e.symm)]
    exact hblk
  have c4 := hblk.cell (i := 4) (x := .int .i64 s2.hd.length) rfl
  rw [h4] at c4
  have c5 := hblk.cell (i := 5) (x := .int .i64 s2.left) rfl
  have c7 := hblk.cell (i := 7) (x := v2) rfl
  have d5 := hblk4.cell (i := 5) (x := .int .i64 s2.left) rfl
  have d7 := hblk4.cell (i := 7) (x := v2) rfl
  have d8 := hblk4.cell (i := 8) (x := .int .i64 s2.came) rfl
  have f5 := hblk4.frozen 5
  have f7 := hblk4.frozen 7
  have f8 := hblk4.frozen 8
  have hm1 : (y.length : Int) < s2.left := by omega
  have hm2 : (s2.left : Int) ≤ 4096 := by omega
  have hm3 : (s2.came : Int) + y.length ≤ 4611686018427387904 := by omega
  have hm4 : (y.length : Int) ≤ 9223372036854775807 := by omega
  have HB := Lib.hid hblk4; have HT := Lib.hid ht; have HBO := Lib.hid hbody; have HAK := Lib.hid hak; have HRUN := Lib.hid hrun; have HO3 := Lib.hid ho3; have HF2 := Lib.hid hfar; have HH4 := Lib.hid h4
  obtain ⟨av, cv, rfl⟩ := hv.len
  obtain ⟨av4, cv4, rfl⟩ := hbody.len
  have hsub : ((s2.left - y.length : Nat) : Int) = (s2.left : Int) - y.length := by omega
  have HSUB := Lib.hid hsub
  clear hblk hblk4 ht hv hbody hak hrun ho3 hfar p2 p3 p4 p5 hst hb3 hb3' hsub
  generalize hmm : y.length = ml at *
  generalize hLL : s2.left = L at *
  generalize s2.came = cm at *
  go_wp2_with fail
  go_region_law (refine step_append_run (by rfl) _ _ _ _ (by rfl) _ _ (by rfl) (by rfl) HRUN.out ?_)
  go_wp2_with fail
  go_ret2
  have hg : w4.grownBy (((w4.setCell ⟨r, 7, none⟩ (.slice av4 (s2.body.length + ml) cv4)).setCell ⟨r, 5, none⟩ (.int .i64 ((L : Int) - ml))).setCell ⟨r, 8, none⟩ (.int .i64 ((cm : Int) + ml))) (some r) := Lib.grownBy_setB (Lib.grownBy_setB (Lib.grownBy_setB (World.grownBy.refl _ _) _ _) _ _) _ _
  rw [List.length_append, hmm] at HBO HAK
  refine ⟨.slice av4 (s2.body.length + ml) cv4, _, rfl, ⟨h0, h1, h2, h3, ?_, HT.out, HBO.out.turned HB.out hg⟩, Bts.nil _, HS.out.trans (Stp.tail P1.out HAK.out HBO.out HB.out hg), .inl rfl⟩
  have h := ((HB.out.set 7 (.slice av4 (s2.body.length + ml) cv4)).set 5 (.int .i64 ((L : Int) - ml))).set 8 (.int .i64 ((cm : Int) + ml))
  rw [← HSUB.out] at h ⊢
  simpa using h
set_option maxHeartbeats 1600000 in
theorem frag_whole (r : Nat) (v u : Value) (s s2 : Ms) (c y : List UInt8) (w : World) (hr : RS w r v s) (hok : s.Ok false) (hcm : s.came + c.length ≤ 4611686018427387904) (hu : Bts w u c) (hc : c ≠ []) (hur : u.ownBlock ≠ some r)
    (huv : u.ownBlock = none ∨ u.ownBlock ≠ v.ownBlock) (h2 : s.num c = (s2, y)) (h4 : s2.hd.length = 4) (hl : s2.left ≤ y.length) (hb : s2.body.length + s2.left ≤ 4096) (hc2 : s2.came + y.length ≤ 4611686018427387904) :
    Calls Try.prog 27 #[.pointer (some ⟨r, 0, none⟩), u] w (Fragd w r v u { s2 with hd := [], body := s2.body ++ y.take s2.left, left := 0, came := s2.came + s2.left } (y.drop s2.left) s2.last) := by
  have hN := rnumber_any r v u s c w hr hok hcm hu hc hur
  rw [h2] at hN
  have HN := Lib.hid hN; clear hN h2
  have HR := Lib.hid hr
  have HU := Lib.hid hu
  have hult := own_lt hu hc
  have HUL := Lib.hid hult
  obtain ⟨a, m, k, rfl⟩ := hu.shape
  have HF := Lib.hid huv
  clear hr hu hult huv
  go_enter Try.func27, Try.ntmps27
  go_wp2_with fail
  refine HN.out.mono ?_; rintro e w2 ⟨v2, u2, rfl, p1, p2, p3, p4, p5⟩
  have hst := Stp.of_grown HR.out p3 p4
  have hur2 : u2.ownBlock ≠ some r := by
    rcases p5 with p5 | p5
    · rw [p5]; simp
    · rw [p5]; exact hur
  have hfar : u2.ownBlock = none ∨ u2.ownBlock ≠ v2.ownBlock := by
    rcases p5 with p5 | p5
    · exact .inl p5
    · rw [p5]; exact far_stp hst HF.out HUL.out
  have P1 := Lib.hid p1; have P2 := Lib.hid p2; have P5 := Lib.hid p5; have HS := Lib.hid hst
  obtain ⟨a2, k2, rfl, _, hk2⟩ := p2.form
  obtain ⟨a3, k3, e3, ho3, hb3⟩ := cut_upto _ w2 y p2 s2.left hl
  obtain ⟨a6, k6, e6, ho6, hb6⟩ := cut_past _ w2 y p2 s2.left hl
  have hb3' := hb3 w2.drew (p2.new (drew_grown _ none))
  have hty : (y.take s2.left).length = s2.left := by rw [List.length_take]; omega
  obtain ⟨h0, h1, h2, h3, hblk, ht, hv⟩ := p1
  obtain ⟨v4, w4, hrun, hbody, hak⟩ := run_append_body w2.drew v2 _ s2.body (y.take s2.left) (hv.kept (drew_grown _ none) (by cases v2.ownBlock <;> simp)) hb3' (by rw [hty]; omega) 30
  have hak := hak.drew
  have hrm : room v2 ≠ some r := fun e => ((RS.lt' P1.out) r e).2 rfl
  have hblk4 : Blk w4 r 48 #[u8v h0, u8v h1, u8v h2, u8v h3, .int .i64 s2.hd.length, .int .i64 s2.left, .bool s2.last, v2, .int .i64 s2.came, .bool s2.shut] := by
    unfold Blk at *
    rw [hak.block r (Blk.lt hblk) (fun e => hrm e.symm)]
    exact hblk
  have c4 := hblk.cell (i := 4) (x := .int .i64 s2.hd.length) rfl
  rw [h4] at c4
  have c5 := hblk.cell (i := 5) (x := .int .i64 s2.left) rfl
  have c7 := hblk.cell (i := 7) (x := v2) rfl
  have d5 := hblk4.cell (i := 5) (x := .int .i64 s2.left) rfl
  have d7 := hblk4.cell (i := 7) (x := v2) rfl
  have d8 := hblk4.cell (i := 8) (x := .int .i64 s2.came) rfl
  have d4 := hblk4.cell (i := 4) (x := .int .i64 s2.hd.length) rfl
  have d6 := hblk4.cell (i := 6) (x := .bool s2.last) rfl
  have f4 := hblk4.frozen 4
  have f5 := hblk4.frozen 5
  have f7 := hblk4.frozen 7
  have f8 := hblk4.frozen 8
  have hm1 : (s2.left : Int) ≤ y.length := by omega
  have hm5 : (s2.came : Int) + s2.left ≤ 4611686018427387904 := by omega
  have hm2 : (s2.left : Int) ≤ 4096 := by omega
  have hm3 : (s2.came : Int) + y.length ≤ 4611686018427387904 := by omega
  have hm4 : (y.length : Int) ≤ 9223372036854775807 := by omega
  have HB := Lib.hid hblk4; have HT := Lib.hid ht; have HBO := Lib.hid hbody; have HAK := Lib.hid hak; have HRUN := Lib.hid hrun; have HO3 := Lib.hid ho3; have HF2 := Lib.hid hfar; have HH4 := Lib.hid h4
  obtain ⟨av, cv, rfl⟩ := hv.len
  obtain ⟨av4, cv4, rfl⟩ := hbody.len
  have HTY := Lib.hid hty; have HO6 := Lib.hid ho6; have HB6 := Lib.hid hb6
  clear hblk hblk4 ht hv hbody hak hrun ho3 hfar p2 p3 p4 p5 hst hb3 hb3' hty ho6 hb6
  generalize hmm : y.length = ml at *
  generalize hLL : s2.left = L at *
  generalize s2.came = cm at *
  go_wp2_with fail
  go_region_law (refine step_append_run (by rfl) _ _ _ _ (by rfl) _ _ (by rfl) (by rfl) HRUN.out ?_)
  go_wp2_with fail
  go_quiet (fail)
  go_wp2_with fail
  go_ret2
  have hg : w4.grownBy (((((w4.setCell ⟨r, 7, none⟩ (.slice av4 (s2.body.length + L) cv4)).setCell ⟨r, 5, none⟩ (.int .i64 0)).setCell ⟨r, 8, none⟩ (.int .i64 ((cm : Int) + L))).setCell ⟨r, 4, none⟩ (.int .i64 0)).drewN nq) (some r) :=
    World.grownBy.trans (Lib.grownBy_setB (Lib.grownBy_setB (Lib.grownBy_setB (Lib.grownBy_setB (World.grownBy.refl _ _) _ _) _ _) _ _) _ _) (grownBy_none (drewN_grown _ _) _)
  rw [List.length_append, HTY.out] at HBO HAK
  have hstp := HS.out.trans (Stp.tail P1.out HAK.out HBO.out HB.out hg)
  have hy := HB6.out _ (P2.out.stp (Stp.tail P1.out HAK.out HBO.out HB.out hg) hur2 HF2.out)
  refine ⟨.slice av4 (s2.body.length + L) cv4, _, rfl, ⟨h0, h1, h2, h3, ?_, rfl, HBO.out.turned HB.out hg⟩, hy, hstp, ?_⟩
  · have h := (((HB.out.set 7 (.slice av4 (s2.body.length + L) cv4)).set 5 (.int .i64 0)).set 8 (.int .i64 ((cm : Int) + L))).set 4 (.int .i64 0)
    have h := h.new (drewN_grown _ nq)
    simpa using h
  · rcases HO6.out with h | h
    · exact .inl h
    · rcases P5.out with h' | h'
      · exact .inl (h.trans h')
      · exact .inr (h.trans h')

/-- A fragment's bytes, whatever they are. -/
theorem frag_any (r : Nat) (v u : Value) (s : Ms) (c : List UInt8) (w : World) (hr : RS w r v s) (hok : s.Ok false) (hs : s.shut = false) (hcm : s.came + c.length ≤ 4611686018427387904) (hu : Bts w u c) (hc : c ≠ []) (hur : u.ownBlock ≠ some r)
    (huv : u.ownBlock = none ∨ u.ownBlock ≠ v.ownBlock) :
    Calls Try.prog 27 #[.pointer (some ⟨r, 0, none⟩), u] w (Fragd w r v u (s.frag c).1 (s.frag c).2.1 (s.frag c).2.2) := by
  rw [Ms.frag_eq]
  by_cases h4 : (s.num c).1.hd.length < 4
  · rw [if_pos h4]
    exact frag_short r v u s c w hr hok hcm hu hc hur h4
  · rw [if_neg h4]
    obtain ⟨k1, k2, k3⟩ := Ms.num_bounds s c hok hs h4
    unfold Ms.rest
    by_cases hl : (s.num c).2.length < (s.num c).1.left
    · rw [if_pos hl]
      exact frag_part r v u s (s.num c).1 c (s.num c).2 w hr hok hcm hu hc hur huv rfl k1 hl k2 (by omega)
    · rw [if_neg hl]
      exact frag_whole r v u s (s.num c).1 c (s.num c).2 w hr hok hcm hu hc hur huv rfl k1 (by omega) k2 (by omega)
end Go.Proofs.Ytahmpgaohjopeaa
