/- The first example, which each statement asks. -/
import Derived.Test.YtahmpgaohjopeaaPut
namespace Go.Proofs.Ytahmpgaohjopeaa
open Go.RowKit

def s5 : Ms := ⟨[128, 0, 0, 2], 1, true, [97], 5, false⟩
theorem run5 : Ms.new.run [128, 0, 0, 2, 97] = (s5, []) := by decide
theorem run6 : s5.run [98] = (.new, [[97, 98]]) := by decide
theorem ok5 : s5.Ok false := ⟨by decide, by decide, by decide, by decide, by intro h; cases h⟩

theorem Fed.of {w : World} {r : Nat} {v : Value} {s s2 : Ms} {c : List UInt8} {recs : List (List UInt8)} {e : Ending} {w' : World} (h : Fed w r v s c e w') (hr : s.run c = (s2, recs)) :
    ∃ v' a k, e = .returned (.tuple #[.slice a recs.length k, .int .i64 (if s2.shut = true then 40 else 0)]) ∧ RS w' r v' s2 ∧ StpN w.heap.size w r v w' v' ∧ Texts w' w.heap.size (.slice a recs.length k) recs := by
  unfold Fed at h
  rw [hr] at h
  obtain ⟨v', a, rfl, h1, h2, h3⟩ := h
  obtain ⟨b, k, rfl⟩ := h3.form
  exact ⟨v', b, k, rfl, h1, h2, h3⟩

theorem far_nil (u : Value) : u.ownBlock = none ∨ u.ownBlock ≠ (Value.slice none 0 0).ownBlock := by
  rcases h : u.ownBlock with _ | g
  · exact .inl rfl
  · exact .inr (by simp [Value.ownBlock])

set_option maxRecDepth 100000 in
set_option maxHeartbeats 1600000 in
theorem awake_any (w : World) : Calls Try.prog 9 #[] w fun e w' => e = .returned (.bool true) ∧ w.grownBy w' none := by
  have hw : writeR [97, 98] = ([128, 0, 0, 2, 97, 98], 0) := by decide
  have HW := Lib.hid (write_any ⟨#[97, 98]⟩ w (by decide))
  simp only [show (⟨#[97, 98]⟩ : ByteArray).data.toList = [97, 98] from rfl, hw] at HW
  go_enter Try.func9, Try.ntmps9
  go_wp2_with fail
  refine HW.out.mono ?_; rintro e w2 ⟨v2, rfl, k1, k2⟩
  have hl2 := k1.lt
  have hb2 := k1.bts
  obtain ⟨a2, c2, rfl, _, _⟩ := hb2.form
  have HB2 := Lib.hid hb2; have HL2 := Lib.hid hl2; have K2 := Lib.hid k2; clear k1 k2 hb2 hl2
  go_wp2_with fail
  refine (new_any w2).mono ?_; rintro e w3 ⟨r, rfl, hr, hg, hle⟩
  have hb3 := HB2.out.new hg
  have hs := hb3.str und22 und5 und9
  obtain ⟨a4, c4, e4, ho4, hb4⟩ := cut_upto _ w3 _ hb3 5 (by decide)
  obtain ⟨a5, c5, e5, ho5, hb5⟩ := cut_past _ w3 _ hb3 5 (by decide)
  have HR := Lib.hid hr; have HG := Lib.hid hg; have HLE := Lib.hid hle; have HB3 := Lib.hid hb3; have HB4 := Lib.hid hb4; have HB5 := Lib.hid hb5; have HO4 := Lib.hid ho4; have HO5 := Lib.hid ho5
  clear hr hg hle hb3 hb4 hb5 ho4 ho5
  simp only [List.length_cons, List.length_nil, Nat.reduceAdd, Nat.reduceSub, Int.cast_ofNat_Int] at *
  go_wp2_with fail
  have hown : ∀ u : Value, (u.ownBlock = none ∨ u.ownBlock = (Value.slice a2 6 c2).ownBlock) → (∀ g, u.ownBlock = some g → g < w3.heap.size) ∧ u.ownBlock ≠ some r := fun u h => by
    rcases h with h | h
    · rw [h]; exact ⟨fun g hg => (by cases hg), by simp⟩
    · rw [h]
      exact ⟨fun g hg => Nat.lt_of_lt_of_le (HL2.out g hg).2 HG.out.size, fun hg => by have := (HL2.out r hg).2; have := HLE.out; omega⟩
  refine (feed_any r _ _ .new [128, 0, 0, 2, 97] w3 HR.out Ms.Ok.new (by decide) (by decide) (HB4.out _ HB3.out) (fun _ => ⟨(hown _ HO4.out).1, (hown _ HO4.out).2, far_nil _⟩)).mono ?_
  rintro e w4 hf
  obtain ⟨v4, al, kl, rfl, q1, q2, q3⟩ := hf.of run5
  have hb4 := HB3.out.stpN q2 (hown _ (.inr rfl)).1 (hown _ (.inr rfl)).2 (far_nil _)
  have hfar := far_stpN q2 (far_nil (.slice a2 6 c2)) (hown _ (.inr rfl)).1
  have HOWN := Lib.hid hown; have Q1 := Lib.hid q1; have Q2 := Lib.hid q2; have HB4' := Lib.hid hb4; have HFAR := Lib.hid hfar
  clear hown q1 q2 q3 hb4 hfar hf
  simp only [List.length_nil, show s5.shut = false from rfl, if_neg (Bool.false_ne_true)] at *
  go_wp2_with fail
  have hf5 : (Value.slice a5 1 c5).ownBlock = none ∨ (Value.slice a5 1 c5).ownBlock ≠ v4.ownBlock := by
    rcases HO5.out with h | h
    · exact .inl h
    · rw [h]; exact HFAR.out
  refine (feed_any r v4 _ s5 [98] w4 Q1.out ok5 (by decide) (by decide) (HB5.out _ HB4'.out) (fun _ => ⟨fun g hg => Nat.lt_of_lt_of_le ((HOWN.out _ HO5.out).1 g hg) Q2.out.size, (HOWN.out _ HO5.out).2, hf5⟩)).mono ?_
  rintro e w5 hf
  obtain ⟨v5, am, km, rfl, p1, p2, p3⟩ := hf.of run6
  obtain ⟨gm, cm, hm, _, hc⟩ := p3.cells (by decide)
  cases hm
  have hc0 := hc 0 (by decide)
  simp only [List.getElem_cons_zero, txt] at hc0
  have HH := Lib.hid (held_any r v5 .new w5 p1 (by decide)); have HS := Lib.hid (shut_any r v5 .new w5 p1)
  have P2 := Lib.hid p2; have P1 := Lib.hid p1
  clear p1 p2 p3 hf hf5 hc
  simp only [List.length_cons, List.length_nil, Nat.reduceAdd, show Ms.new.shut = false from rfl, if_neg (Bool.false_ne_true), show Ms.new.came = 0 from rfl, Int.cast_ofNat_Int] at *
  go_wp2_with fail
  refine HH.out.mono ?_; rintro e w6 ⟨rfl, rfl⟩
  go_wp2_with fail
  refine HS.out.mono ?_; rintro e w6 ⟨rfl, rfl⟩
  go_wp2_with fail
  go_ret
  have hg3 := World.grownBy.trans K2.out HG.out
  have hle := Nat.le_trans K2.out.size HLE.out
  have hg4 := Q2.out.grown hg3 hle (fun g hg => by cases hg)
  exact ⟨rfl, P2.out.grown hg4 hle (fun g hg => by
    rcases Q2.out.frm with h | h | h
    · rw [room_own hg] at h; cases h
    · rw [room_own hg] at h; cases h
    · exact Nat.le_trans hg3.size (h g (room_own hg)))⟩
end Go.Proofs.Ytahmpgaohjopeaa
