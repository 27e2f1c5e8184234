/- Contracts of xdr.Reader's methods: words and numbers. -/
import Derived.Test.YtpklgcinijlmmaaRdr
import Derived.Test.YtpklgcinijlmmaaNum
import Derived.Maps.AppendAt
import Derived.Deep.MidRow
import Derived.Laws.Cover3
namespace Go.Proofs.Ytpklgcinijlmmaa
open Go.RowKit

set_option maxRecDepth 20000 in
set_option maxHeartbeats 400000 in
theorem number_any (a b c d : Nat) (w : World) (ha : a < 256) (hb : b < 256) (hc : c < 256) (hd : d < 256) :
    Calls Try.prog 98 #[.agg #[.int .u8 a, .int .u8 b, .int .u8 c, .int .u8 d]] w fun e w' => e = .returned (.int .u32 (num4 a b c d)) ∧ w.grownBy w' none := by
  have H := Lib.hid (or4 a b c d ha hb hc hd)
  go_enter Try.func98, Try.ntmps98
  go_wp2
  go_ret
  exact ⟨by rw [H.out]; rfl, World.grownBy_alloc _ _ _⟩

/-- A read that went well: what was told, what is left. -/
def ReadYes (w : World) (r : Nat) (g : Option Nat) (v : Value) (bs : List UInt8) (e : Ending) (w' : World) : Prop :=
  e = .returned v ∧ Rdr w' r g bs false ∧ w.grownBy w' (some r)
/-- A read that did not. -/
def ReadNo (w : World) (r : Nat) (g : Option Nat) (v : Value) (e : Ending) (w' : World) : Prop :=
  e = .returned v ∧ Rdr w' r g [] true ∧ w.grownBy w' (some r)

theorem grownBy_none {w w' : World} (h : w.grownBy w' none) (row : Option Nat) : w.grownBy w' row := ⟨h.os, h.tape, h.output, h.size, fun k hk _ => h.block k hk (by simp)⟩

theorem Rdr.new {w w' : World} {r : Nat} {g : Option Nat} {bs : List UInt8} {bad : Bool} (h : Rdr w r g bs bad) (hg : w.grownBy w' none) : Rdr w' r g bs bad := by
  obtain ⟨v, h1, h2, h3, h4, h5⟩ := h
  exact ⟨v, h1.new hg, h2.new hg, h3, h4, h5⟩

theorem Rdr.kept {w w' : World} {r : Nat} {g : Option Nat} {bs : List UInt8} {bad : Bool} {row : Option Nat} (h : Rdr w r g bs bad) (hg : w.grownBy w' row) (hne : row = none) : Rdr w' r g bs bad := by
  subst hne; exact h.new hg

set_option maxRecDepth 20000 in
set_option maxHeartbeats 400000 in
theorem word_no (r : Nat) (g : Option Nat) (bs : List UInt8) (bad : Bool) (w : World) (hr : Rdr w r g bs bad) (h : bs.length < 4 ∨ bad = true) :
    Calls Try.prog 99 #[.pointer (some ⟨r, 0, none⟩)] w (ReadNo w r g (.int .u32 0)) := by
  have HT := Lib.hid (take_no r g 4 bs bad w hr (h.elim (fun h => .inr (.inl (by omega))) (fun h => .inr (.inr h))))
  clear hr h
  go_enter Try.func99, Try.ntmps99
  go_wp2_with (first | (go_at_call 97; refine HT.out.mono ?_; rintro e w' ⟨rfl, h2, h3⟩; have H2 := Lib.hid h2; have H3 := Lib.hid h3; clear h2 h3))
  go_ret
  exact ⟨rfl, H2.out, H3.out⟩

theorem und53 : Try.prog.underlying 75 = some (.array 4 5) := by kernel_rfl
theorem inf53 : (Try.prog.info? 75).map (·.size) = some 4 := by kernel_rfl

/-- Four bytes, read as an array. -/
theorem Bts.four {w : World} {v : Value} {a b c d : UInt8} (h : Bts w v [a, b, c, d]) : ∃ g o k, v = .slice (some ⟨g, o, none⟩) 4 k ∧ 4 ≤ k ∧ k ≤ maxLen ∧
    (Instr.arrayAt 75 (.slice (some ⟨g, o, none⟩) 4 k)).run Try.prog w = .ok (.pointer (some ⟨g, o, none⟩)) w ∧
    w.rangeAt g o [.int .u8 a.toNat, .int .u8 b.toNat, .int .u8 c.toNat, .int .u8 d.toNat] := by
  rcases h with ⟨_, h⟩ | ⟨g, o, k, rfl, h1, h2, h3⟩ | ⟨_, _, h⟩
  rotate_left 2
  · cases h
  · cases h
  · refine ⟨g, o, k, rfl, h1, h2, run_arrayAt w _ _ 4 _ 4 k und53 (Nat.le_refl _), ?_⟩
    intro j v hj
    have := h3
    match j, hj with
    | 0, hj => obtain rfl := Option.some.inj hj; exact h3 0 (by simp)
    | 1, hj => obtain rfl := Option.some.inj hj; exact h3 1 (by simp)
    | 2, hj => obtain rfl := Option.some.inj hj; exact h3 2 (by simp)
    | 3, hj => obtain rfl := Option.some.inj hj; exact h3 3 (by simp)

set_option maxRecDepth 20000 in
set_option maxHeartbeats 400000 in
theorem word_yes (r : Nat) (g : Option Nat) (a b c d : UInt8) (bs : List UInt8) (w : World) (hr : Rdr w r g (a :: b :: c :: d :: bs) false) :
    Calls Try.prog 99 #[.pointer (some ⟨r, 0, none⟩)] w (ReadYes w r g (.int .u32 (num4 a.toNat b.toNat c.toNat d.toNat)) bs) := by
  have HT := Lib.hid (take_yes r g 4 (a :: b :: c :: d :: bs) w hr (by omega) (by simp; omega))
  clear hr
  go_enter Try.func99, Try.ntmps99
  go_wp2_with (first
    | (go_at_call 97; refine HT.out.mono ?_; rintro e w' ⟨v1, rfl, h1, h2, h3, h4⟩; obtain ⟨g, o, k, rfl, k1, k2, c0, c1⟩ := Bts.four h1; have C1 := Lib.hid c1; clear k2 c1; have H3 := Lib.hid h3; have H4 := Lib.hid h4; clear h1 h2 h3 h4)
    | (refine wpList_load_mid rfl 75 _ rfl _ _ rfl _ _ C1.out und53 rfl inf53 ?_)
    | (go_at_call 98; refine (number_any a.toNat b.toNat c.toNat d.toNat _ a.toNat_lt b.toNat_lt c.toNat_lt d.toNat_lt).mono ?_; rintro e w2 ⟨rfl, h5⟩; have H5 := Lib.hid h5; clear h5))
  go_ret
  exact ⟨rfl, H3.out.new H5.out, World.grownBy.trans H4.out (grownBy_none H5.out _)⟩
end Go.Proofs.Ytpklgcinijlmmaa
