/- The document's answers of layer 4: words and numbers, which stands ahead. -/
import Derived.Test.YtpklgcinijlmmaaHanR
import Derived.Deep.QuietTactic
import Derived.BigQuiet
namespace Go.Proofs.Ytpklgcinijlmmaa
open Go.RowKit

theorem made_bts (w : World) (bs : List UInt8) (t : TypeId) (h : bs.length ≤ maxLen) : Bts (w.alloc (.cells (bs.map u8v).toArray t)) (.slice (some ⟨w.heap.size, 0, none⟩) bs.length bs.length) bs := by
  refine .inr (.inl ⟨w.heap.size, 0, bs.length, rfl, Nat.le_refl _, h, fun i hi => ?_⟩)
  rw [Nat.zero_add]
  exact (Blk.made w t (bs.map u8v).toArray).cell (by simp [List.getElem?_eq_getElem hi, u8v])

theorem cells_word4 (n : Nat) (hn : n < 4294967296) : #[Value.int IntKind.u8 ((n : Int) / 16777216), Value.int IntKind.u8 ((n : Int) / 65536 % 256), Value.int IntKind.u8 ((n : Int) / 256 % 256), Value.int IntKind.u8 ((n : Int) % 256)] = ((word4 n).map u8v).toArray := by
  simp only [word4, List.map_cons, List.map_nil, u8v, UInt8.toNat_ofNat']
  rw [show ((n / 16777216 % 2 ^ 8 : Nat) : Int) = (n : Int) / 16777216 by omega, show ((n / 65536 % 2 ^ 8 : Nat) : Int) = (n : Int) / 65536 % 256 by omega, show ((n / 256 % 2 ^ 8 : Nat) : Int) = (n : Int) / 256 % 256 by omega, show ((n % 2 ^ 8 : Nat) : Int) = (n : Int) % 256 by omega]

set_option maxRecDepth 20000 in
set_option maxHeartbeats 1000000 in
theorem rword4_any (n : Nat) (w : World) (hn : n < 4294967296) : Calls Try.prog 91 #[.int .i64 (n : Int)] w (TX w (word4 n)) := by
  have hb := made_bts w (word4 n) 5 (by show 4 ≤ maxLen; unfold maxLen; omega)
  have hst := hb.str und22 und5 und9
  rw [show (word4 n).length = 4 from rfl, ← cells_word4 n hn] at hst
  have h2 : (n : Int) < 4294967296 := by omega
  clear hb hn
  generalize word4 n = l at *
  go_enter Try.func91, Try.ntmps91
  go_wp2_with fail
  go_ret
  exact ⟨rfl, World.grownBy_alloc _ _ _⟩

theorem w64_id {x : Int} (h0 : 0 ≤ x) (h1 : x < 4611686018427387904) : wrap64 x = x := by unfold wrap64; omega
theorem num_wrap (a b c d : Nat) (ha : a < 256) (hb : b < 256) (hc : c < 256) (hd : d < 256) :
    wrap64 (wrap64 (wrap64 (wrap64 (wrap64 (a : Int) * 16777216) + wrap64 (wrap64 (b : Int) * 65536)) + wrap64 (wrap64 (c : Int) * 256)) + wrap64 (d : Int)) = num4 a b c d := by
  rw [w64_id (x := (a : Int)) (by omega) (by omega), w64_id (x := (b : Int)) (by omega) (by omega), w64_id (x := (c : Int)) (by omega) (by omega), w64_id (x := (d : Int)) (by omega) (by omega),
    w64_id (x := (a : Int) * 16777216) (by omega) (by omega), w64_id (x := (b : Int) * 65536) (by omega) (by omega), w64_id (x := (c : Int) * 256) (by omega) (by omega),
    w64_id (x := (a : Int) * 16777216 + (b : Int) * 65536) (by omega) (by omega), w64_id (x := (a : Int) * 16777216 + (b : Int) * 65536 + (c : Int) * 256) (by omega) (by omega),
    w64_id (x := (a : Int) * 16777216 + (b : Int) * 65536 + (c : Int) * 256 + (d : Int)) (by omega) (by omega)]
  rfl

set_option maxRecDepth 20000 in
set_option maxHeartbeats 2000000 in
theorem rnumber_any (a b c d : UInt8) (w : World) : Calls Try.prog 104 #[.string ⟨[a, b, c, d].toArray⟩] w fun e w' => e = .returned (.int .i64 (num4 a.toNat b.toNat c.toNat d.toNat)) ∧ w.grownBy w' none := by
  have ha := a.toNat_lt; have hb := b.toNat_lt; have hc := c.toNat_lt; have hd := d.toNat_lt
  go_enter Try.func104, Try.ntmps104
  go_wp2_with fail
  go_quiet (fail)
  go_wp2
  go_ret
  exact ⟨retI (num_wrap a.toNat b.toNat c.toNat d.toNat ha hb hc hd), ⟨rfl, rfl, rfl, Nat.le_refl _, fun _ _ _ => rfl⟩⟩
end Go.Proofs.Ytpklgcinijlmmaa
