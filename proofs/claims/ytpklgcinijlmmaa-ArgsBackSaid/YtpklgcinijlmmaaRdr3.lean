/- Contracts of xdr.Reader's methods: numbers of 64 bits. -/
import Derived.Test.YtpklgcinijlmmaaRdr2
import Derived.Deep.RegionHeld3
namespace Go.Proofs.Ytpklgcinijlmmaa
open Go.RowKit

set_option maxRecDepth 20000 in
set_option maxHeartbeats 400000 in
theorem long_no (r : Nat) (g : Option Nat) (bs : List UInt8) (bad : Bool) (w : World) (hr : Rdr w r g bs bad) (h : bs.length < 8 ∨ bad = true) :
    Calls Try.prog 74 #[.pointer (some ⟨r, 0, none⟩)] w (ReadNo w r g (.int .u64 0)) := by
  have HT := Lib.hid (take_no r g 8 bs bad w hr (h.elim (fun h => .inr (.inl (by omega))) (fun h => .inr (.inr h))))
  clear hr h
  go_enter Try.func74, Try.ntmps74
  go_wp2_with (first | (go_at_call 97; refine HT.out.mono ?_; rintro e w' ⟨rfl, h2, h3⟩; have H2 := Lib.hid h2; have H3 := Lib.hid h3; clear h2 h3))
  go_ret
  exact ⟨rfl, H2.out, H3.out⟩

theorem Bts.eight {w : World} {v : Value} {a b c d a' b' c' d' : UInt8} (h : Bts w v [a, b, c, d, a', b', c', d']) : ∃ g o k, v = .slice (some ⟨g, o, none⟩) 8 k ∧ 8 ≤ k ∧ k ≤ maxLen ∧
    w.cell? ⟨g, o, none⟩ = some (.int .u8 a.toNat) ∧ w.cell? ⟨g, o + 1, none⟩ = some (.int .u8 b.toNat) ∧ w.cell? ⟨g, o + 2, none⟩ = some (.int .u8 c.toNat) ∧ w.cell? ⟨g, o + 3, none⟩ = some (.int .u8 d.toNat) ∧
    w.cell? ⟨g, o + 4, none⟩ = some (.int .u8 a'.toNat) ∧ w.cell? ⟨g, o + 5, none⟩ = some (.int .u8 b'.toNat) ∧ w.cell? ⟨g, o + 6, none⟩ = some (.int .u8 c'.toNat) ∧ w.cell? ⟨g, o + 7, none⟩ = some (.int .u8 d'.toNat) := by
  rcases h with ⟨_, h⟩ | ⟨g, o, k, rfl, h1, h2, h3⟩ | ⟨_, _, h⟩
  rotate_left 2
  · cases h
  · cases h
  · exact ⟨g, o, k, rfl, h1, h2, h3 0 (by simp), h3 1 (by simp), h3 2 (by simp), h3 3 (by simp), h3 4 (by simp), h3 5 (by simp), h3 6 (by simp), h3 7 (by simp)⟩

/-- The number of eight bytes. -/
def num8 (a b c d a' b' c' d' : Nat) : Int := num4 a b c d * 4294967296 + num4 a' b' c' d'

set_option maxRecDepth 20000 in
set_option maxHeartbeats 800000 in
theorem long_yes (r : Nat) (g : Option Nat) (a b c d a' b' c' d' : UInt8) (bs : List UInt8) (w : World) (hr : Rdr w r g (a :: b :: c :: d :: a' :: b' :: c' :: d' :: bs) false) :
    Calls Try.prog 74 #[.pointer (some ⟨r, 0, none⟩)] w (ReadYes w r g (.int .u64 (num8 a.toNat b.toNat c.toNat d.toNat a'.toNat b'.toNat c'.toNat d'.toNat)) bs) := by
  have HT := Lib.hid (take_yes r g 8 (a :: b :: c :: d :: a' :: b' :: c' :: d' :: bs) w hr (by omega) (by simp; omega))
  clear hr
  go_enter Try.func74, Try.ntmps74
  go_wp2_with (first
    | (go_at_call 97; refine HT.out.mono ?_; rintro e w' ⟨v1, rfl, h1, h2, h3, h4⟩; obtain ⟨g, o, k, rfl, k1, k2, c0, c1, c2, c3, c4, c5, c6, c7⟩ := Bts.eight h1; clear k2; have H3 := Lib.hid h3; have H4 := Lib.hid h4; clear h1 h2 h3 h4))
  have A1 : ∀ w, (Instr.arrayAt 75 (.slice (some ⟨g, o, none⟩) 4 4)).run Try.prog w = .ok (.pointer (some ⟨g, o, none⟩)) w := fun w => run_arrayAt w _ _ 4 _ 4 4 und53 (Nat.le_refl _)
  have A2 : ∀ w, (Instr.arrayAt 75 (.slice (some ⟨g, o + 4, none⟩) 4 (k - 4))).run Try.prog w = .ok (.pointer (some ⟨g, o + 4, none⟩)) w := fun w => run_arrayAt w _ _ 4 _ 4 (k - 4) und53 (Nat.le_refl _)
  have k4 : ¬ k = 4 := by omega
  have k5 : (4 : Int) ≤ (k : Int) := by omega
  go_region_held3 (fun w => w.cell? ⟨g, o, none⟩ = some (.int .u8 a.toNat) ∧ w.cell? ⟨g, o + 1, none⟩ = some (.int .u8 b.toNat) ∧ w.cell? ⟨g, o + 2, none⟩ = some (.int .u8 c.toNat) ∧ w.cell? ⟨g, o + 3, none⟩ = some (.int .u8 d.toNat) ∧
    w.cell? ⟨g, o + 4, none⟩ = some (.int .u8 a'.toNat) ∧ w.cell? ⟨g, o + 5, none⟩ = some (.int .u8 b'.toNat) ∧ w.cell? ⟨g, o + 6, none⟩ = some (.int .u8 c'.toNat) ∧ w.cell? ⟨g, o + 7, none⟩ = some (.int .u8 d'.toNat))
    (first | go_keep | (refine ⟨h5.cell ?_ (by simp), h5.cell ?_ (by simp), h5.cell ?_ (by simp), h5.cell ?_ (by simp), h5.cell ?_ (by simp), h5.cell ?_ (by simp), h5.cell ?_ (by simp), h5.cell ?_ (by simp)⟩ <;> simp [*]))
    (first | (go_at_call 98; refine (number_any _ _ _ _ _ (UInt8.toNat_lt _) (UInt8.toNat_lt _) (UInt8.toNat_lt _) (UInt8.toNat_lt _)).mono ?_; rintro e w2 ⟨rfl, h5⟩))
  all_goals clear A1 A2 c0 c1 c2 c3 c4 c5 c6 c7 k4 k5
  all_goals
    obtain ⟨m0, m1⟩ := num4_lt a.toNat b.toNat c.toNat d.toNat a.toNat_lt b.toNat_lt c.toNat_lt d.toNat_lt
    obtain ⟨m2, m3⟩ := num4_lt a'.toNat b'.toNat c'.toNat d'.toNat a'.toNat_lt b'.toNat_lt c'.toNat_lt d'.toNat_lt
    go_wp2
    go_ret
    have hg : w'.grownBy w2 none := World.grownBy.trans (show w'.grownBy w'.drew none from ⟨rfl, rfl, rfl, Nat.le_refl _, fun _ _ _ => rfl⟩) (World.grownBy.trans ‹w'.drew.grownBy _ none› h5)
    exact ⟨congrArg (fun z => Ending.returned (Value.int IntKind.u64 z)) (or32i _ _ m0 m1 m2 m3), H3.out.new hg, World.grownBy.trans H4.out (grownBy_none hg _)⟩

set_option maxRecDepth 20000 in
set_option maxHeartbeats 400000 in
theorem int_no (r : Nat) (g : Option Nat) (bs : List UInt8) (bad : Bool) (w : World) (hr : Rdr w r g bs bad) (h : bs.length < 8 ∨ bad = true) :
    Calls Try.prog 73 #[.pointer (some ⟨r, 0, none⟩)] w (ReadNo w r g (.int .i64 0)) := by
  have HT := Lib.hid (long_no r g bs bad w hr h)
  clear hr h
  go_enter Try.func73, Try.ntmps73
  go_wp2_with (first | (go_at_call 74; refine HT.out.mono ?_; rintro e w' ⟨rfl, h2, h3⟩; have H2 := Lib.hid h2; have H3 := Lib.hid h3; clear h2 h3))
  go_ret
  exact ⟨rfl, H2.out, H3.out⟩

/-- A number of 64 bits as an int. -/
def asInt (n : Int) : Int := wrap64 n

set_option maxRecDepth 20000 in
set_option maxHeartbeats 400000 in
theorem int_yes (r : Nat) (g : Option Nat) (a b c d a' b' c' d' : UInt8) (bs : List UInt8) (w : World) (hr : Rdr w r g (a :: b :: c :: d :: a' :: b' :: c' :: d' :: bs) false) :
    Calls Try.prog 73 #[.pointer (some ⟨r, 0, none⟩)] w (ReadYes w r g (.int .i64 (asInt (num8 a.toNat b.toNat c.toNat d.toNat a'.toNat b'.toNat c'.toNat d'.toNat))) bs) := by
  have HT := Lib.hid (long_yes r g a b c d a' b' c' d' bs w hr)
  clear hr
  go_enter Try.func73, Try.ntmps73
  generalize num8 a.toNat b.toNat c.toNat d.toNat a'.toNat b'.toNat c'.toNat d'.toNat = n at *
  go_wp2_with (first | (go_at_call 74; refine HT.out.mono ?_; rintro e w' ⟨rfl, h2, h3⟩; have H2 := Lib.hid h2; have H3 := Lib.hid h3; clear h2 h3))
  go_ret
  exact ⟨rfl, H2.out, H3.out⟩
end Go.Proofs.Ytpklgcinijlmmaa
