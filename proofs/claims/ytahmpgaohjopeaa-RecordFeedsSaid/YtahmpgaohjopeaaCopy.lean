/- Copy. -/
import Derived.Test.YtahmpgaohjopeaaRec
import Derived.Deep.RegionHeld3
import Derived.Deep.QuietTactic
import Derived.BigQuiet
namespace Go.Proofs.Ytahmpgaohjopeaa
open Go.RowKit

theorem Body.cut {w : World} {v : Value} {bs : List UInt8} (h : Body w v bs) :
    ∃ a c, (∀ w, (Instr.slice 30 v none (some (.int .i64 (bs.length : Int))) (some (.int .i64 (bs.length : Int)))).run Try.prog w = .ok (.slice a bs.length c) w) ∧ Body w (.slice a bs.length c) bs ∧ room (.slice a bs.length c) = none ∧ (Value.slice a bs.length c).ownBlock = v.ownBlock := by
  rcases h with ⟨rfl, rfl⟩ | ⟨g, cap, cur, rfl, hb, h1, h2, h3, h4⟩
  · refine ⟨none, 0, fun w => ?_, Body.nil w, rfl, rfl⟩
    simp [Instr.slice, Instr.sliceBounds, Instr.sliceBound, run_underlying und22, siz5, asIntOf, go_sem]
  · refine ⟨some ⟨g, 0, none⟩, bs.length, fun w => ?_, .inr ⟨g, bs.length, cur, rfl, hb, Nat.le_refl _, by omega, by omega, h4⟩, by simp [room], rfl⟩
    have hkc : ¬ cap < bs.length := by omega
    simp [Instr.slice, Instr.sliceBounds, Instr.sliceBound, run_underlying und22, siz5, asIntOf, go_sem, hkc, Addr.add]

def Copied (w : World) (v : Value) (s : Ms) (e : Ending) (w' : World) : Prop :=
  ∃ r2 v2, e = .returned (.pointer (some ⟨r2, 0, none⟩)) ∧ RS w' r2 v2 s ∧ room v2 = none ∧ w.grownBy w' none ∧ w.heap.size ≤ r2 ∧ v2.ownBlock = v.ownBlock

set_option maxHeartbeats 400000 in
theorem copy_any (r : Nat) (v : Value) (s : Ms) (w : World) (hr : RS w r v s) :
    Calls Try.prog 11 #[.pointer (some ⟨r, 0, none⟩)] w (Copied w v s) := by
  have HR := Lib.hid hr
  obtain ⟨h0, h1, h2, h3, hblk, ht, hv⟩ := hr
  obtain ⟨a, c, rfl⟩ := hv.len
  obtain ⟨c0, f0⟩ := hblk.ten 0 (by simp)
  obtain ⟨c1, f1⟩ := hblk.ten 1 (by simp)
  obtain ⟨c2, f2⟩ := hblk.ten 2 (by simp)
  obtain ⟨c3, f3⟩ := hblk.ten 3 (by simp)
  obtain ⟨c4, f4⟩ := hblk.ten 4 (by simp)
  obtain ⟨c5, f5⟩ := hblk.ten 5 (by simp)
  obtain ⟨c6, f6⟩ := hblk.ten 6 (by simp)
  obtain ⟨c7, f7⟩ := hblk.ten 7 (by simp)
  obtain ⟨c8, f8⟩ := hblk.ten 8 (by simp)
  obtain ⟨c9, f9⟩ := hblk.ten 9 (by simp)
  simp only [List.getElem_toArray, List.getElem_cons_zero, List.getElem_cons_succ] at c0 c1 c2 c3 c4 c5 c6 c7 c8 c9
  simp only [u8v] at c0 c1 c2 c3
  clear hblk
  go_enter Try.func11, Try.ntmps11
  go_wp2_with fail
  have hnew := World.new_ne w _ c7
  have hg := World.grownBy_alloc w (.cells #[.int .u8 h0.toNat, .int .u8 h1.toNat, .int .u8 h2.toNat, .int .u8 h3.toNat, .int .i64 s.hd.length, .int .i64 s.left, .bool s.last, .slice a s.body.length c, .int .i64 s.came, .bool s.shut] 48) none
  have hB := Blk.made w 48 #[.int .u8 h0.toNat, .int .u8 h1.toNat, .int .u8 h2.toNat, .int .u8 h3.toNat, .int .i64 s.hd.length, .int .i64 s.left, .bool s.last, .slice a s.body.length c, .int .i64 s.came, .bool s.shut]
  generalize w.alloc (.cells #[.int .u8 h0.toNat, .int .u8 h1.toNat, .int .u8 h2.toNat, .int .u8 h3.toNat, .int .i64 s.hd.length, .int .i64 s.left, .bool s.last, .slice a s.body.length c, .int .i64 s.came, .bool s.shut] 48) = w2 at *
  have k7 := hB.cell (i := 7) (x := .slice a s.body.length c) rfl
  have z7 := hB.frozen 7
  have c7' := hg.cell c7 (by simp)
  have hlen : (s.body.length : Int) ≤ 9223372036854775807 := by
    have := hv.bts.form; obtain ⟨_, _, h, h1, h2⟩ := this; unfold maxLen at h2; omega
  obtain ⟨a3, c3', hcut, hbody, hroom, hown⟩ := (hv.kept hg (by cases (Value.slice a s.body.length c).ownBlock <;> simp)).cut
  have HB := Lib.hid hB; have HG := Lib.hid hg; have HBO := Lib.hid hbody; have HRO := Lib.hid hroom; have HOW := Lib.hid hown; have HT := Lib.hid ht
  clear hB hg hbody hroom hown ht c0 c1 c2 c3 c4 c5 c6 c7 c8 c9 f0 f1 f2 f3 f4 f5 f6 f7 f8 f9 hv
  go_region_held3 (fun w' => w'.cell? ⟨r, 7, none⟩ = some (.slice a s.body.length c)) (go_keep) (fail)
  go_wp2_with fail
  go_ret
  have g1 : w2.grownBy (w2.setCell ⟨w.heap.size, 7, none⟩ (.slice a3 s.body.length c3')) (some w.heap.size) := Lib.grownBy_setB (World.grownBy.refl _ _) _ _
  refine ⟨w.heap.size, .slice a3 s.body.length c3', rfl, ⟨h0, h1, h2, h3, ?_, HT.out, ?_⟩, HRO.out, World.grownBy.trans (grown_own HG.out g1 (fun n hn => by cases hn; exact Nat.le_refl _)) (drew_grown _ _), Nat.le_refl _, HOW.out⟩
  · have h := ((HB.out.set 7 (.slice a3 s.body.length c3')).new (drew_grown _ none))
    simpa [u8v] using h
  · refine (HBO.out.kept g1 ?_).kept (drew_grown _ none) (by cases (Value.slice a3 s.body.length c3').ownBlock <;> simp)
    rw [HOW.out]
    rcases hob : (Value.slice a s.body.length c).ownBlock with _ | g
    · exact .inl rfl
    · refine .inr ?_
      have := (HR.out.lt g hob).1
      simp; omega
end Go.Proofs.Ytahmpgaohjopeaa
