/- RecordWrites, walked. -/
import Derived.Test.YtahmpgaohjopeaaRefW
import Derived.Test.YtahmpgaohjopeaaLaw
namespace Go.Proofs.Ytahmpgaohjopeaa
open Go.RowKit

/-- Bytes of the call's own may be written. -/
def Writable (w : World) (base : Nat) (v : Value) (n : Nat) : Prop := 0 < n → ∃ g c cur, v = .slice (some ⟨g, 0, none⟩) n c ∧ Blk w g 5 cur ∧ n ≤ cur.size ∧ base ≤ g

theorem Own.writable {w : World} {base : Nat} {v : Value} {bs : List UInt8} (h : Own w base v bs) : Writable w base v bs.length := fun h0 => by
  obtain ⟨_, ⟨rfl, h2⟩ | ⟨g, cap, cur, rfl, k1, k2, k3, k4, k5, _⟩⟩ := h
  · omega
  · exact ⟨g, cap, cur, rfl, k2, by omega, k1⟩

theorem Writable.new {w w' : World} {base n : Nat} {v : Value} (h : Writable w base v n) (hg : w.grownBy w' none) : Writable w' base v n := fun h0 => by
  obtain ⟨g, c, cur, h1, h2, h3⟩ := h h0
  exact ⟨g, c, cur, h1, h2.new hg, h3⟩

theorem Writable.low {w : World} {base b' n : Nat} {v : Value} (h : Writable w base v n) (hb : b' ≤ base) : Writable w b' v n := fun h0 => by
  obtain ⟨g, c, cur, h1, h2, h3, h4⟩ := h h0
  exact ⟨g, c, cur, h1, h2, h3, Nat.le_trans hb h4⟩

set_option maxRecDepth 100000 in
set_option maxHeartbeats 1600000 in
theorem writes_short (s : ByteArray) (n : Int) (W : World) (hs : s.size ≤ 10000) (hn : n ≤ 9223372036854775807) :
    Calls Try.prog 4 #[.string s, .int .i64 n] W fun e w' => e = .returned (.bool true) ∧ W.grownBy w' none := by
  have hs' : (s.size : Int) ≤ 10000 := by omega
  have HW1 := Lib.hid (fun w => write_any s w (by omega))
  have HW2 := Lib.hid (fun w => write_ref s w (by omega))
  have HC1 := Lib.hid (fun w => cut_any s n w (by omega) hn)
  have HC2 := Lib.hid (fun w => cut_ref s n w (by omega) hn)
  generalize writeR s.data.toList = p at *
  generalize cutR s.data.toList n = q at *
  obtain ⟨p1, p2⟩ := p
  obtain ⟨q1, q2⟩ := q
  go_enter Try.func4, Try.ntmps4
  go_wp2_with fail
  refine (HW1.out _).mono ?_; rintro e w1 ⟨va, rfl, a1, a2⟩
  replace a1 : Own w1 W.heap.size va p1 := a1
  obtain ⟨aa, ca, rfl, _, hma⟩ := a1.bts.form
  have HA1 := Lib.hid a1; have HA2 := Lib.hid a2; clear a1 a2
  have hp1 : (p1.length : Int) ≤ 9223372036854775807 := by unfold maxLen at hma; omega
  go_wp2_with fail
  refine (HW2.out _).mono ?_; rintro e w2 ⟨rfl, b2⟩
  have HB2 := Lib.hid b2; clear b2
  go_wp2_with fail
  refine (HC1.out _).mono ?_; rintro e w3 ⟨vc, rfl, c1, c2⟩
  replace c1 : Own w3 w2.heap.size vc q1 := c1
  obtain ⟨ac, cc, rfl, _, _⟩ := c1.bts.form
  have HC1' := Lib.hid c1; have HC2' := Lib.hid c2; clear c1 c2
  go_wp2_with fail
  refine (HC2.out _).mono ?_; rintro e w4 ⟨rfl, d2⟩
  have hg4 := World.grownBy.trans (World.grownBy.trans (World.grownBy.trans HA2.out HB2.out) HC2'.out) d2
  have hst1 := (HA1.out.bts.new (World.grownBy.trans (World.grownBy.trans HB2.out HC2'.out) d2)).str und22 und5 und9
  have hst2 := (HC1'.out.bts.new d2).str und22 und5 und9
  have hwr := HA1.out.writable.new (World.grownBy.trans (World.grownBy.trans HB2.out HC2'.out) d2)
  have HG4 := Lib.hid hg4; have HWR := Lib.hid hwr
  clear d2 hg4 hwr HA1 HA2 HB2 HC1' HC2' HC1 HC2
  simp only [txt]
  go_wp2_with fail
  go_loopw [13] (fun i w' => ∃ k : Nat, i = .int .i64 k ∧ k ≤ p1.length ∧ Writable w' W.heap.size (.slice aa p1.length ca) p1.length ∧ W.grownBy w' none) (fun i _ => p1.length - (intOf i).toNat)
  case atStart => exact ⟨0, rfl, Nat.zero_le _, HWR.out, HG4.out⟩
  case round =>
    obtain ⟨k, rfl, hk, hwr, hgr⟩ := hrel
    have HG := Lib.hid hgr
    clear hgr hst1 hst2
    by_cases hk1 : k < p1.length
    · obtain ⟨g, c, cur, e, hb, hcs, hge⟩ := hwr (by omega)
      cases e
      have hc := hb.cell (i := k) (Array.getElem?_eq_getElem (show k < cur.size by omega))
      have hf := hb.frozen k
      have hk2 : (k : Int) < p1.length := by omega
      have hk3 : (0 : Int) ≤ k := by omega
      have HB := Lib.hid hb
      clear hb hwr
      go_wp2_with fail
      go_roundw
      case rel => exact ⟨k + 1, by go_num, by omega, fun _ => ⟨g, _, _, rfl, HB.out.set k _, by simpa using hcs, hge⟩, grown_own HG.out (Lib.grownBy_setB (World.grownBy.refl _ _) _ _) (fun n hn => by cases hn; exact hge)⟩
      case measure => simp [intOf]; omega
    · have hk2 : (p1.length : Int) ≤ k := by omega
      clear hwr
      go_wp2_with fail
      refine (HW1.out _).mono ?_; rintro e w5 ⟨va, rfl, a1, a2⟩
      obtain ⟨ab, cb, rfl, _, _⟩ := a1.bts.form
      have hst := a1.bts.str und22 und5 und9
      have HG5 := Lib.hid (World.grownBy.trans HG.out a2); clear a1 a2
      go_wp2_with fail
      refine (awake_any _).mono ?_; rintro e w6 ⟨rfl, hg6⟩
      have HG6 := Lib.hid hg6; clear hg6
      go_wp2_with fail
      go_ret
      exact ⟨rfl, World.grownBy.trans HG5.out HG6.out⟩

set_option maxRecDepth 100000 in
set_option maxHeartbeats 800000 in
theorem writes_long (s : ByteArray) (n : Int) (W : World) (hs : 10000 < s.size) (hm : s.size ≤ maxLen) :
    Calls Try.prog 4 #[.string s, .int .i64 n] W fun e w' => e = .returned (.bool true) ∧ W.grownBy w' none := by
  have hl' : (10000 : Int) < s.size := by omega
  have hm' : (s.size : Int) ≤ 9223372036854775807 := by unfold maxLen at hm; omega
  go_enter Try.func4, Try.ntmps4
  go_wp2_with fail
  refine (awake_any _).mono ?_; rintro e w1 ⟨rfl, hg1⟩
  have HG1 := Lib.hid hg1; clear hg1
  go_wp2_with fail
  go_ret
  exact ⟨rfl, HG1.out⟩

theorem writes_walk (s : ByteArray) (hs : s.size ≤ maxLen) (n : Int) (hn : (Lit.int .i64 n).wf = true) (W : World) :
    Calls Try.prog 4 #[.string s, .int .i64 n] W fun e w' => e = .returned (.bool true) ∧ W.grownBy w' none := by
  by_cases hl : s.size ≤ 10000
  · refine writes_short s n W hl ?_
    simp [Lit.wf, IntKind.min, IntKind.max, IntKind.signed, IntKind.bits] at hn
    omega
  · exact writes_long s n W (by omega) hs
end Go.Proofs.Ytahmpgaohjopeaa
