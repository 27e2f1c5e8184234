/- Contracts of xdr.Reader's methods. -/
import Derived.Test.YtpklgcinijlmmaaBase
import Derived.Deep.QuietTactic
import Derived.BigQuiet
namespace Go.Proofs.Ytpklgcinijlmmaa
open Go.RowKit

theorem und22 : Try.prog.underlying 55 = some (.slice 5) := by kernel_rfl
theorem siz5 : ∀ w, (Go.sizeOf 5).run Try.prog w = .ok 1 w := fun w => by
  have h : (Try.prog.info? 5).map (·.size) = some 1 := by kernel_rfl
  rcases hi : Try.prog.info? 5 with _ | i
  · simp [hi] at h
  · simp [hi] at h
    simp [Go.sizeOf, typeInfo, hi, h]

set_option maxRecDepth 20000 in
set_option maxHeartbeats 400000 in
theorem ok_any (r : Nat) (v : Value) (bad : Bool) (w : World) (hr : Two w r 115 v (.bool bad)) :
    Calls Try.prog 81 #[.pointer (some ⟨r, 0, none⟩)] w fun e w' => e = .returned (.bool (!bad)) ∧ w = w' := by
  have hb := hr.c1; clear hr
  go_enter Try.func81, Try.ntmps81
  go_wp2
  go_ret
  exact ⟨rfl, rfl⟩

set_option maxRecDepth 20000 in
set_option maxHeartbeats 400000 in
theorem left_any (r : Nat) (v : Value) (bs : List UInt8) (bad : Bool) (w : World) (hv : Bts w v bs) (hr : Two w r 115 v (.bool bad)) :
    Calls Try.prog 82 #[.pointer (some ⟨r, 0, none⟩)] w fun e w' => e = .returned (.int .i64 bs.length) ∧ w = w' := by
  obtain ⟨a, c, rfl, hl, hm⟩ := hv.form
  have hb := hr.c0; clear hr hv
  unfold maxLen at hm
  go_enter Try.func82, Try.ntmps82
  go_wp2
  go_ret
  exact ⟨rfl, rfl⟩

set_option maxRecDepth 20000 in
set_option maxHeartbeats 400000 in
theorem fail_any (r : Nat) (v y : Value) (w : World) (hr : Two w r 115 v y) :
    Calls Try.prog 100 #[.pointer (some ⟨r, 0, none⟩)] w fun e w' => e = .returned (.tuple #[]) ∧ Two w' r 115 (.slice none 0 0) (.bool true) ∧ w.grownBy w' (some r) := by
  have h0 := hr.c0
  have h1 := hr.c1
  have f0 := hr.f0
  have f1 := hr.f1
  have h1' := (hr.set0 (.slice none 0 0)).c1
  have f1' := (hr.set0 (.slice none 0 0)).f1
  have HR := Lib.hid hr; clear hr
  go_enter Try.func100, Try.ntmps100
  go_wp2
  go_end0
  exact ⟨rfl, (HR.out.set0 _).set1 _, Lib.grownBy_setB (Lib.grownBy_setB (World.grownBy.refl _ _) _ _) _ _⟩

/-- What a reader of bytes is: bad with nothing, or good with what is left. The bytes do not lie in its own block. -/
def Rdr (w : World) (r : Nat) (g : Option Nat) (bs : List UInt8) (bad : Bool) : Prop :=
  ∃ v, Two w r 115 v (.bool bad) ∧ Bts w v bs ∧ (v.ownBlock = none ∨ v.ownBlock = g) ∧ g ≠ some r ∧ (bad = true → bs = [])

theorem Rdr.failed {w : World} {r : Nat} {g : Option Nat} (h : Two w r 115 (.slice none 0 0) (.bool true)) (hg : g ≠ some r) : Rdr w r g [] true := ⟨_, h, Bts.nil w, .inl rfl, hg, fun _ => rfl⟩

def TakeYes (w : World) (r : Nat) (g : Option Nat) (xs bs : List UInt8) (e : Ending) (w' : World) : Prop :=
  ∃ v1, e = .returned (.tuple #[v1, .bool true]) ∧ Bts w' v1 xs ∧ (v1.ownBlock = none ∨ v1.ownBlock ≠ some r) ∧ Rdr w' r g bs false ∧ w.grownBy w' (some r)

set_option maxRecDepth 20000 in
set_option maxHeartbeats 400000 in
theorem take_yes (r : Nat) (g : Option Nat) (n : Int) (bs : List UInt8) (w : World) (hr : Rdr w r g bs false) (h0 : 0 ≤ n) (hk : n ≤ bs.length) :
    Calls Try.prog 97 #[.pointer (some ⟨r, 0, none⟩), .int .i64 n] w (TakeYes w r g (bs.take n.toNat) (bs.drop n.toNat)) := by
  obtain ⟨v, ht, hv, hne, hgr, _⟩ := hr
  have HG := Lib.hid hgr; clear hgr
  obtain ⟨k, rfl⟩ := Int.eq_ofNat_of_zero_le h0
  have hk' : k ≤ bs.length := by omega
  obtain ⟨v1, e1, b1, o1⟩ := hv.cut_hm und22 siz5 k hk'
  obtain ⟨v2, e2, b2, o2⟩ := hv.cut_lo und22 siz5 k hk'
  obtain ⟨a2, n2, c2, rfl⟩ := b2.shape
  have c0 := ht.c0
  have f0 := ht.f0
  have HL := Lib.hid (left_any r v bs false w hv ht)
  have HO := Lib.hid (ok_any r v false w ht)
  have HT := Lib.hid (ht.set0 (.slice a2 n2 c2)); have HV := Lib.hid hv; have HB1 := Lib.hid b1; have HB2 := Lib.hid b2
  have HN := Lib.hid hne; have HO1 := Lib.hid o1; have HO2 := Lib.hid o2
  clear ht hv b1 b2 hne o1 o2
  go_enter Try.func97, Try.ntmps97
  go_wp2_with (first | (go_at_call 82; refine HL.out.mono ?_; rintro e w' ⟨rfl, rfl⟩) | (go_at_call 81; refine HO.out.mono ?_; rintro e w' ⟨rfl, rfl⟩))
  go_ret2
  have hg : w.grownBy (w.setCell ⟨r, 0, none⟩ (.slice a2 n2 c2)) (some r) := Lib.grownBy_setB (World.grownBy.refl _ _) 0 _
  have own : ∀ u : Value, (u.ownBlock = none ∨ u.ownBlock = v.ownBlock) → (u.ownBlock = none ∨ u.ownBlock = g) := fun u h => by
    rcases h with h | h
    · exact .inl h
    · rw [h]; exact HN.out
  have far : ∀ u : Value, (u.ownBlock = none ∨ u.ownBlock = v.ownBlock) → (u.ownBlock = none ∨ u.ownBlock ≠ some r) := fun u h => by
    rcases own u h with h | h
    · exact .inl h
    · exact .inr (by rw [h]; exact HG.out)
  exact ⟨v1, rfl, HB1.out.kept hg (far _ HO1.out), far _ HO1.out, ⟨_, HT.out, HB2.out.kept hg (far _ HO2.out), own _ HO2.out, HG.out, fun h => by cases h⟩, hg⟩

def TakeNo (w : World) (r : Nat) (g : Option Nat) (e : Ending) (w' : World) : Prop :=
  e = .returned (.tuple #[.slice none 0 0, .bool false]) ∧ Rdr w' r g [] true ∧ w.grownBy w' (some r)

set_option maxRecDepth 20000 in
set_option maxHeartbeats 400000 in
theorem take_neg (r : Nat) (g : Option Nat) (n : Int) (bs : List UInt8) (bad : Bool) (w : World) (hr : Rdr w r g bs bad) (h : n < 0) :
    Calls Try.prog 97 #[.pointer (some ⟨r, 0, none⟩), .int .i64 n] w (TakeNo w r g) := by
  obtain ⟨v, ht, hv, hne, hgr, _⟩ := hr
  have HG := Lib.hid hgr; clear hgr
  have HF := Lib.hid (fail_any r v _ w ht)
  have hd : decide (n < 0) = true := by simpa using h
  clear ht hv hne
  go_enter Try.func97, Try.ntmps97
  go_wp2_with (first | (go_at_call 100; refine HF.out.mono ?_; rintro e w' ⟨rfl, h2, h3⟩; have H2 := Lib.hid h2; have H3 := Lib.hid h3; clear h2 h3))
  go_ret2
  exact ⟨rfl, Rdr.failed H2.out HG.out, H3.out⟩

set_option maxRecDepth 20000 in
set_option maxHeartbeats 400000 in
theorem take_far (r : Nat) (g : Option Nat) (n : Int) (bs : List UInt8) (bad : Bool) (w : World) (hr : Rdr w r g bs bad) (h0 : 0 ≤ n) (h : (bs.length : Int) < n) :
    Calls Try.prog 97 #[.pointer (some ⟨r, 0, none⟩), .int .i64 n] w (TakeNo w r g) := by
  obtain ⟨v, ht, hv, hne, hgr, _⟩ := hr
  have HG := Lib.hid hgr; clear hgr
  have HF := Lib.hid (fail_any r v _ w ht)
  have HL := Lib.hid (left_any r v bs bad w hv ht)
  have hd : decide (n < 0) = false := by simpa using h0
  have hd2 : decide ((bs.length : Int) < n) = true := by simpa using h
  clear ht hv hne
  go_enter Try.func97, Try.ntmps97
  go_wp2_with (first | (go_at_call 82; refine HL.out.mono ?_; rintro e w' ⟨rfl, rfl⟩) | (go_at_call 100; refine HF.out.mono ?_; rintro e w' ⟨rfl, h2, h3⟩; have H2 := Lib.hid h2; have H3 := Lib.hid h3; clear h2 h3))
  go_ret2
  exact ⟨rfl, Rdr.failed H2.out HG.out, H3.out⟩

set_option maxRecDepth 20000 in
set_option maxHeartbeats 400000 in
theorem take_bad (r : Nat) (g : Option Nat) (n : Int) (bs : List UInt8) (w : World) (hr : Rdr w r g bs true) (h0 : 0 ≤ n) (h : n ≤ (bs.length : Int)) :
    Calls Try.prog 97 #[.pointer (some ⟨r, 0, none⟩), .int .i64 n] w (TakeNo w r g) := by
  obtain ⟨v, ht, hv, hne, hgr, _⟩ := hr
  have HG := Lib.hid hgr; clear hgr
  have HF := Lib.hid (fail_any r v _ w ht)
  have HL := Lib.hid (left_any r v bs true w hv ht)
  have HO := Lib.hid (ok_any r v true w ht)
  have hd : decide (n < 0) = false := by simpa using h0
  have hd2 : decide ((bs.length : Int) < n) = false := by simpa using h
  clear ht hv hne
  go_enter Try.func97, Try.ntmps97
  go_wp2_with (first | (go_at_call 82; refine HL.out.mono ?_; rintro e w' ⟨rfl, rfl⟩) | (go_at_call 81; refine HO.out.mono ?_; rintro e w' ⟨rfl, rfl⟩) | (go_at_call 100; refine HF.out.mono ?_; rintro e w' ⟨rfl, h2, h3⟩; have H2 := Lib.hid h2; have H3 := Lib.hid h3; clear h2 h3))
  all_goals (go_ret2; exact ⟨rfl, Rdr.failed H2.out HG.out, H3.out⟩)

/-- Whatever is asked that can't be had. -/
theorem take_no (r : Nat) (g : Option Nat) (n : Int) (bs : List UInt8) (bad : Bool) (w : World) (hr : Rdr w r g bs bad) (h : n < 0 ∨ (bs.length : Int) < n ∨ bad = true) :
    Calls Try.prog 97 #[.pointer (some ⟨r, 0, none⟩), .int .i64 n] w (TakeNo w r g) := by
  by_cases h1 : n < 0
  · exact take_neg r g n bs bad w hr h1
  · by_cases h2 : (bs.length : Int) < n
    · exact take_far r g n bs bad w hr (by omega) h2
    · obtain rfl : bad = true := by rcases h with h | h | h <;> first | contradiction | exact h
      exact take_bad r g n bs w hr (by omega) (by omega)
end Go.Proofs.Ytpklgcinijlmmaa
