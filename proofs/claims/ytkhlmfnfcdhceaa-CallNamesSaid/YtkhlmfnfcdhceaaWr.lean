/- xdr's writers. -/
import Derived.Test.YtkhlmfnfcdhceaaWrd
import Derived.Test.YtkhlmfnfcdhceaaRdr4
import Derived.Lib.ConvBytes
import Derived.Deep.RegionHeld3
namespace Go.Proofs.Ytkhlmfnfcdhceaa
open Go.RowKit

theorem run_arr4 (g q : Nat) (hq : q ≤ 4) (w : World) : (Instr.sliceAt 72 (.pointer (some ⟨g, 0, none⟩)) none (some (.int .i64 (q : Int))) none).run Try.prog w = .ok (.slice (some ⟨g, 0, none⟩) q 4) w := by
  have h4 : ¬ 4 < q := by omega
  simp [Instr.sliceAt, Instr.sliceBounds, Instr.sliceBound, run_underlying und53, asIntOf, go_sem, h4, Addr.add]

theorem bytesWorld_grown (w : World) (e : TypeId) (s : ByteArray) : w.grownBy (Lib.bytesWorld w e s) none :=
  ⟨rfl, rfl, rfl, by rw [Lib.bytesWorld_size]; omega, fun k hk _ => Lib.bytesWorld_at_old w e s k hk⟩

theorem bytesWorld_bts (w : World) (s : ByteArray) (hs : s.size ≤ 100000000000) : Bts (Lib.bytesWorld w 5 s) (.slice (some ⟨w.heap.size, 0, none⟩) s.size (grownCap w s.size 0 5)) s.data.toList := by
  have hz : s.data.toList.length = s.size := by simp
  refine .inr (.inl ⟨w.heap.size, 0, grownCap w s.size 0 5, by rw [hz], by rw [hz]; exact grownCap_ge _ _ _ _, grownCap_le_maxLen _ _ _ _ (by unfold maxLen; omega), fun i hi => ?_⟩)
  rw [Nat.zero_add, Lib.bytesWorld_cell _ _ _ _ (by omega)]
  simp [List.getD, List.getElem?_eq_getElem hi]

theorem bts_zeros {w : World} {g : Nat} {t : TypeId} (q : Nat) (hq : q ≤ 4) (h : w.heap[g]? = some (.cells #[.int .u8 0, .int .u8 0, .int .u8 0, .int .u8 0] t (0, 0))) :
    Bts w (.slice (some ⟨g, 0, none⟩) q 4) (List.replicate q 0) := by
  refine .inr (.inl ⟨g, 0, 4, by simp, by simpa using hq, by unfold maxLen; omega, fun i hi => ?_⟩)
  simp at hi
  match i, hi with
  | 0, _ => simp [World.cell?, h]
  | 1, _ => simp [World.cell?, h]
  | 2, _ => simp [World.cell?, h]
  | 3, _ => simp [World.cell?, h]
  | i + 4, hi => omega

set_option maxHeartbeats 800000 in
theorem Fixed_any (v : Value) (bs : List UInt8) (s : ByteArray) (w : World) (hv : Bts w v bs) (hl : bs.length ≤ 100000000000) (hs : s.size ≤ 100000000000) :
    Calls Try.prog 36 #[v, .string s] w (New w (bs ++ (s.data.toList ++ List.replicate (pad s.size) 0))) := by
  have HV := Lib.hid hv
  have HF := Lib.hid (fun w => fill_any s.size w (by unfold maxLen; omega))
  have hp : pad s.size ≤ 4 := by unfold pad; omega
  obtain ⟨a, m, c, rfl⟩ := hv.shape
  have HLL := Lib.hid hl
  have HS := Lib.hid hs
  have hcv : ∀ w : World, (convert 9 57 (.string s)).run Try.prog w = .ok (.slice (some ⟨w.heap.size, 0, none⟩) s.size (grownCap w s.size 0 5)) (Lib.bytesWorld w 5 s) := fun w => Lib.run_convert_string_bytes w _ _ _ s und9 und22 und5
  clear hv hl
  generalize pad s.size = q at *
  have hA := run_arr4 w.heap.size q hp
  go_enter Try.func36, Try.ntmps36
  go_wp2_with fail
  clear hcv
  have g1 := World.grownBy_alloc w (.cells #[.int .u8 0, .int .u8 0, .int .u8 0, .int .u8 0] 72) none
  have g2 := bytesWorld_grown (w.alloc (.cells #[.int .u8 0, .int .u8 0, .int .u8 0, .int .u8 0] 72)) 5 s
  have hZ := (bts_zeros (t := 72) q hp (heap_alloc_new w _)).new g2
  have hT := bytesWorld_bts (w.alloc (.cells #[.int .u8 0, .int .u8 0, .int .u8 0, .int .u8 0] 72)) s HS.out
  have hz : (w.alloc (.cells #[.int .u8 0, .int .u8 0, .int .u8 0, .int .u8 0] 72)).heap.size = w.heap.size + 1 := by simp
  rw [hz] at hT
  clear hz
  have hg := World.grownBy.trans g1 g2
  clear g1 g2
  generalize Lib.bytesWorld (w.alloc (.cells #[.int .u8 0, .int .u8 0, .int .u8 0, .int .u8 0] 72)) 5 s = w4 at *
  generalize grownCap (w.alloc (.cells #[.int .u8 0, .int .u8 0, .int .u8 0, .int .u8 0] 72)) s.size 0 5 = cp at *
  have HZ := Lib.hid hZ; have HT := Lib.hid hT; have HG := Lib.hid hg
  clear hZ hT hg
  have HL : Hid (bs.length + s.data.toList.length + (List.replicate q (0 : UInt8)).length ≤ 140737488355328) := Lib.hid (by
    have := HLL.out; have := HS.out; have hz : s.data.toList.length = s.size := by simp
    rw [hz]; simp; omega)
  refine (HF.out _).mono ?_; rintro e w5 ⟨rfl, rfl⟩
  go_wp2_with fail
  have g2 := fun o => World.grownBy_alloc w4 o none
  refine (concat3 _ _ _ _ _ bs s.data.toList (List.replicate q 0) _ w _ (World.grownBy.trans HG.out (g2 _)) (heap_alloc_new w4 _) ((HV.out.new HG.out).new (g2 _)) (HT.out.new (g2 _)) (HZ.out.new (g2 _)) HL.out).mono ?_
  rintro e w3 ⟨v3, rfl, h3, h4⟩
  obtain ⟨a3, n3, c3, rfl⟩ := h3.bts.shape
  have H3 := Lib.hid h3; have H4 := Lib.hid h4
  clear h3 h4 g2 hA
  go_wp2_with fail
  go_ret
  exact ⟨_, rfl, H3.out, H4.out⟩

/-- The bytes that a text becomes. -/
def fixedB (s : List UInt8) : List UInt8 := s ++ List.replicate (pad s.length) 0
def textB (s : List UInt8) : List UInt8 := word4 s.length ++ fixedB s
def longB (n : Nat) : List UInt8 := word4 (n / 4294967296) ++ word4 (n % 4294967296)
def flagB (b : Bool) : List UInt8 := word4 (if b then 1 else 0)

/-- An int as 64 bits. -/
def bits64 (n : Int) : Nat := (n % 18446744073709551616).toNat

end Go.Proofs.Ytkhlmfnfcdhceaa
