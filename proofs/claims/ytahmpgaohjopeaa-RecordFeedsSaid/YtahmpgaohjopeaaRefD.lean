/- The document's own reader: Feed, Held. -/
import Derived.Test.YtahmpgaohjopeaaTold
namespace Go.Proofs.Ytahmpgaohjopeaa
open Go.RowKit

/-- The document's reader. -/
def RefR (w : World) (x : Nat) (all : List UInt8) (n : Nat) (sh : Bool) : Prop := Blk w x 29 #[txt all, .int .i64 n, .bool sh]

set_option maxHeartbeats 400000 in
theorem ref_held (x n : Nat) (all : List UInt8) (w : World) (h : RefR w x all n (Ms.new.run all).1.shut) (hl : all.length ≤ 1000000) :
    Calls Try.prog 16 #[.pointer (some ⟨x, 0, none⟩)] w fun e w' => e = .returned (.int .i64 (Ms.new.run all).1.came) ∧ w.grownBy w' none := by
  have c0 := Blk.cell h (i := 0) (x := txt all) rfl
  have c2 := Blk.cell h (i := 2) (x := .bool (Ms.new.run all).1.shut) rfl
  have hd := (Ms.new_ok all).shut
  have hcm := Ms.new_came all
  have HT := Lib.hid (told_any ⟨all.toArray⟩ w hl)
  simp only [show (⟨all.toArray⟩ : ByteArray).data.toList = all from rfl] at HT
  simp only [txt] at c0
  by_cases hs : (Ms.new.run all).1.shut = true
  · have h0 : (Ms.new.run all).1.came = 0 := by rw [hd hs]; rfl
    rw [h0]
    rw [hs] at c2
    clear h hd hcm HT
    go_enter Try.func16, Try.ntmps16
    go_wp2_with fail
    go_ret
    exact ⟨rfl, World.grownBy.refl _ _⟩
  · have hs' : (Ms.new.run all).1.shut = false := by simpa using hs
    rw [hs'] at c2
    have hl' : (all.length : Int) ≤ 1000000 := by omega
    have hcm' : ((Ms.new.run all).1.came : Int) ≤ all.length := by omega
    clear hd hcm
    have HH := Lib.hid h; have HS := Lib.hid hs'; clear h hs hs'
    go_enter Try.func16, Try.ntmps16
    go_wp2_with fail
    refine HT.out.mono ?_; rintro e w2 ⟨a, k, wh, rfl, h1, h2, h3, h4, h5⟩
    have hw := h3 HS.out
    have c0' := (Blk.new HH.out h2).cell (i := 0) (x := txt all) rfl
    simp only [txt] at c0'
    have H2 := Lib.hid h2
    have hw2 : (all.length : Int) - wh = (Ms.new.run all).1.came := by omega
    have HW2 := Lib.hid hw2
    clear h1 h2 h3 HT hw hw2
    generalize (Ms.new.run all).2.length = cn at *
    generalize (Ms.new.run all).1.shut = cs at *
    go_wp2_with fail
    go_ret
    refine ⟨?_, H2.out⟩
    exact congrArg (fun z => Ending.returned (Value.int IntKind.i64 z)) HW2.out

/-- What the document's Feed leaves. -/
def RefFed (w : World) (x : Nat) (all c : List UInt8) (n : Nat) (e : Ending) (w' : World) : Prop :=
  ∃ a k, e = .returned (.tuple #[.slice a ((Ms.new.run (all ++ c)).2.length - n) k, .int .i64 (code (Ms.new.run (all ++ c)).1)]) ∧ RefR w' x (all ++ c) (Ms.new.run (all ++ c)).2.length (Ms.new.run (all ++ c)).1.shut ∧
    Strs w' (.slice a ((Ms.new.run (all ++ c)).2.length - n) k) ((Ms.new.run (all ++ c)).2.drop n) ∧ w.grownBy w' (some x) ∧ (∀ g, (Value.slice a ((Ms.new.run (all ++ c)).2.length - n) k).ownBlock = some g → w.heap.size ≤ g)

theorem RefR.new {w w' : World} {x n : Nat} {all : List UInt8} {sh : Bool} (h : RefR w x all n sh) (hg : w.grownBy w' none) : RefR w' x all n sh := Blk.new h hg
theorem RefR.cell {w : World} {x n : Nat} {all : List UInt8} {sh : Bool} (h : RefR w x all n sh) {i : Nat} {y : Value} (hy : #[txt all, .int .i64 n, .bool sh][i]? = some y) : w.cell? ⟨x, i, none⟩ = some y := Blk.cell h hy

theorem strs_from (a : Option Addr) (m c k : Nat) (w : World) (base : Nat) (xs : List (List UInt8)) (h : Texts w base (.slice a m c) xs) (hm : m = xs.length) (hk : k ≤ m) :
    ∃ a2 c2, (∀ w, (Instr.slice 31 (.slice a m c) (some (.int .i64 (k : Int))) none none).run Try.prog w = .ok (.slice a2 (m - k) c2) w) ∧ ((Value.slice a2 (m - k) c2).ownBlock = none ∨ (Value.slice a2 (m - k) c2).ownBlock = (Value.slice a m c).ownBlock) ∧ ∀ w, Strs w (.slice a m c) xs → Strs w (.slice a2 (m - k) c2) (xs.drop k) := by
  subst hm
  have sizS : ∀ w, (Go.sizeOf 9).run Try.prog w = .ok 1 w := fun w => by
    have h : (Try.prog.info? 9).map (·.size) = some 1 := by kernel_rfl
    rcases hi : Try.prog.info? 9 with _ | i
    · simp [hi] at h
    · simp [hi] at h
      simp [Go.sizeOf, typeInfo, hi, h]
  rcases h.strs with ⟨e, rfl⟩ | ⟨b, o, c', e, h1, h2, h3⟩ | ⟨a', e, rfl⟩
  · cases e
    obtain rfl : k = 0 := by simpa using hk
    refine ⟨none, 0, fun w => ?_, .inl rfl, fun w _ => .inl ⟨rfl, by simp⟩⟩
    simp [Instr.slice, Instr.sliceBounds, Instr.sliceBound, run_underlying und31, sizS, asIntOf, go_sem]
  · cases e
    have hkc : ¬ xs.length < k := by omega
    by_cases hc : c = k
    · subst hc
      have hl : xs.length = c := by omega
      refine ⟨some ⟨b, o, none⟩, 0, fun w => ?_, .inr rfl, fun w _ => .inr (.inr ⟨⟨b, o, none⟩, by rw [hl, Nat.sub_self], List.eq_nil_of_length_eq_zero (by simp; omega)⟩)⟩
      simp [Instr.slice, Instr.sliceBounds, Instr.sliceBound, run_underlying und31, sizS, asIntOf, go_sem, hl]
    · refine ⟨some ⟨b, o + k, none⟩, c - k, fun w => ?_, .inr rfl, fun w hw => ?_⟩
      · simp [Instr.slice, Instr.sliceBounds, Instr.sliceBound, run_underlying und31, sizS, asIntOf, go_sem, hkc, hc]
      · by_cases h0 : 0 < xs.length
        · obtain ⟨b', o', c'', e, hcell⟩ := hw.at h0
          cases e
          refine .inr (.inl ⟨b, o + k, c - k, by rw [List.length_drop], by rw [List.length_drop]; omega, by omega, fun i hi => ?_⟩)
          rw [List.length_drop] at hi
          rw [Nat.add_assoc, hcell (k + i) (by omega), List.getElem_drop]
        · exact .inr (.inl ⟨b, o + k, c - k, by rw [List.length_drop], by rw [List.length_drop]; omega, by omega, fun i hi => by rw [List.length_drop] at hi; omega⟩)
  · cases e
    obtain rfl : k = 0 := by simpa using hk
    refine ⟨some a', 0, fun w => ?_, .inr rfl, fun w _ => .inr (.inr ⟨a', rfl, by simp⟩)⟩
    simp [Instr.slice, Instr.sliceBounds, Instr.sliceBound, run_underlying und31, sizS, asIntOf, go_sem, Addr.add]

set_option maxRecDepth 100000 in
set_option maxHeartbeats 1600000 in
theorem ref_feed (x n : Nat) (all c : List UInt8) (u : Value) (w : World) (h : RefR w x all n false) (hu : Bts w u c) (hl : (all ++ c).length ≤ 1000000) (hn : n ≤ (Ms.new.run (all ++ c)).2.length) :
    Calls Try.prog 13 #[.pointer (some ⟨x, 0, none⟩), u] w (RefFed w x all c n) := by
  have c0 := Blk.cell h (i := 0) (x := txt all) rfl
  have c2 := Blk.cell h (i := 2) (x := .bool false) rfl
  have f0 := Blk.frozen h 0
  have hst := (hu.new (drew_grown w none)).str und22 und5 und9
  obtain ⟨au, mu, ku, rfl⟩ := hu.shape
  simp only [txt] at c0
  rw [List.length_append] at hl
  have l1 : (all.length : Int) ≤ 1000000 := by omega
  have l2 : (c.length : Int) ≤ 1000000 := by omega
  have HH := Lib.hid h
  clear h hu
  have HN := Lib.hid hn; clear hn
  have hlt : (9223372036854775807 < all.length + c.length) = False := eq_false (by omega)
  have hcat : (⟨all.toArray⟩ : ByteArray) ++ ⟨c.toArray⟩ = ⟨(all ++ c).toArray⟩ := by rw [ba_app]
  have hgr : w.grownBy ((w.setCell ⟨x, 0, none⟩ (.string ⟨(all ++ c).toArray⟩)).drew) (some x) := World.grownBy.trans (Lib.grownBy_setB (World.grownBy.refl w _) _ _) (drew_grown _ _)
  have hx1 : RefR ((w.setCell ⟨x, 0, none⟩ (.string ⟨(all ++ c).toArray⟩)).drew) x (all ++ c) n false := by
    have h := Blk.new (Blk.set HH.out 0 (.string ⟨(all ++ c).toArray⟩)) (drew_grown _ none)
    unfold RefR txt
    simpa using h
  have HT := Lib.hid (fun w => told_any ⟨(all ++ c).toArray⟩ w (by show (all ++ c).length ≤ _; rw [List.length_append]; exact hl))
  simp only [show (⟨(all ++ c).toArray⟩ : ByteArray).data.toList = all ++ c by simp] at HT
  have HX1 := Lib.hid hx1; have HGR := Lib.hid hgr; clear hx1 hgr
  clear hl
  go_enter Try.func13, Try.ntmps13
  go_wp2_with fail
  go_region_law (fail)
  all_goals
    generalize hW1 : (w.setCell ⟨x, 0, none⟩ (.string ⟨(all ++ c).toArray⟩)).drew = w1 at *
    clear hW1 c0 c2 f0 hst hcat hlt
    have c0 := HX1.out.cell (i := 0) (y := txt (all ++ c)) rfl
    simp only [txt] at c0
    go_wp2_with fail
    refine (HT.out _).mono ?_; rintro e w2 ⟨a, k, wh, rfl, h1, h2, h3, h4, h5⟩
    have hx2 := HX1.out.new h2
    obtain ⟨a2, k2, e2, o2, b2⟩ := strs_from a _ k n w2 _ _ h1 rfl HN.out
    have hlow : ∀ g, (Value.slice a2 ((Ms.new.run (all ++ c)).2.length - n) k2).ownBlock = some g → w.heap.size ≤ g := fun g hg => by
      rcases o2 with o | o
      · rw [o] at hg; cases hg
      · rw [o] at hg; exact Nat.le_trans HGR.out.size (h1.lt g hg).1
    have c1 := hx2.cell (i := 1) (y := .int .i64 n) rfl
    have c2 := hx2.cell (i := 2) (y := .bool false) rfl
    have f1 := Blk.frozen hx2 1
    have f2 := Blk.frozen hx2 2
    have hbs := b2 _ h1.strs
    have hxn : ∀ g, (Value.slice a2 ((Ms.new.run (all ++ c)).2.length - n) k2).ownBlock = some g → g ≠ x := fun g hg => by
      rcases o2 with o | o
      · rw [o] at hg; cases hg
      · rw [o] at hg
        obtain ⟨_, cur, hc⟩ := h1.blk g hg
        exact hc.ne hx2 (by decide)
    have HB := Lib.hid hbs; have H2 := Lib.hid h2; have HX2 := Lib.hid hx2; have HLW := Lib.hid hlow; have HXN := Lib.hid hxn
    have hcd : code (Ms.new.run (all ++ c)).1 = (if (Ms.new.run (all ++ c)).1.shut = true then 40 else 0) := rfl
    have HCD := Lib.hid hcd
    have hcn : ((Ms.new.run (all ++ c)).2.length : Int) ≤ 9223372036854775807 := by
      have h6 := Ms.run_count .new (all ++ c)
      have h7 : (all ++ c).length = all.length + c.length := List.length_append
      omega
    clear h1 h2 h3 h4 h5 hx2 o2 b2 hbs hlow HT hcd hxn
    have hfin : ∀ (wz : World) (e : Ending), wz = (w2.setCell ⟨x, 1, none⟩ (.int .i64 (Ms.new.run (all ++ c)).2.length)).setCell ⟨x, 2, none⟩ (.bool (Ms.new.run (all ++ c)).1.shut) → e = .returned (.tuple #[.slice a2 ((Ms.new.run (all ++ c)).2.length - n) k2, .int .i64 (code (Ms.new.run (all ++ c)).1)]) → RefFed w x all c n e wz := fun wz e hw he => by
      have hg : w2.grownBy wz (some x) := by rw [hw]; exact Lib.grownBy_setB (Lib.grownBy_setB (World.grownBy.refl _ _) _ _) _ _
      refine ⟨a2, k2, he, ?_, HB.out.kept hg ?_, World.grownBy.trans HGR.out (World.grownBy.trans (grownBy_none H2.out _) hg), HLW.out⟩
      · have h := (Blk.set HX2.out 1 (.int .i64 (Ms.new.run (all ++ c)).2.length)).set 2 (.bool (Ms.new.run (all ++ c)).1.shut)
        rw [← hw] at h
        unfold RefR
        simpa using h
      · rcases ho : (Value.slice a2 ((Ms.new.run (all ++ c)).2.length - n) k2).ownBlock with _ | g
        · exact .inl rfl
        · exact .inr (by simpa using HXN.out g ho)
    have HFIN := Lib.hid hfin; clear hfin
    by_cases hs : (Ms.new.run (all ++ c)).1.shut = true
    · have hs2 := HCD.out
      rw [if_pos hs] at hs2
      rw [hs, hs2] at HFIN
      rw [hs]
      clear hs hs2 HCD
      generalize (Ms.new.run (all ++ c)).2.length = nn at *
      go_wp2_with fail
      go_ret2
      exact HFIN.out _ _ rfl rfl
    · have hs1 : (Ms.new.run (all ++ c)).1.shut = false := by simpa using hs
      have hs2 := HCD.out
      rw [if_neg hs] at hs2
      rw [hs1, hs2] at HFIN
      rw [hs1]
      clear hs hs1 hs2 HCD
      generalize (Ms.new.run (all ++ c)).2.length = nn at *
      go_wp2_with fail
      go_ret2
      exact HFIN.out _ _ rfl rfl

set_option maxHeartbeats 400000 in
theorem ref_feed_shut (x n : Nat) (all c : List UInt8) (u : Value) (w : World) (h : RefR w x all n true) (hu : Bts w u c) :
    Calls Try.prog 13 #[.pointer (some ⟨x, 0, none⟩), u] w fun e w' => e = .returned (.tuple #[.slice none 0 0, .int .i64 40]) ∧ w = w' := by
  have c2 := Blk.cell h (i := 2) (x := .bool true) rfl
  obtain ⟨au, mu, ku, rfl⟩ := hu.shape
  go_enter Try.func13, Try.ntmps13
  go_wp2_with fail
  go_ret2
  exact ⟨rfl, rfl⟩
end Go.Proofs.Ytahmpgaohjopeaa
