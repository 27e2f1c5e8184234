/- xdr's writers. -/
import Derived.Test.YtpklgcinijlmmaaWrd
import Derived.Test.YtpklgcinijlmmaaRdr4
import Derived.Lib.ConvBytes
import Derived.Deep.RegionHeld3
namespace Go.Proofs.Ytpklgcinijlmmaa
open Go.RowKit

set_option maxRecDepth 20000 in
set_option maxHeartbeats 800000 in
theorem Long_any (v : Value) (bs : List UInt8) (n : Nat) (w : World) (hv : Bts w v bs) (hl : bs.length ≤ 100000000000) (hn : n < 18446744073709551616) :
    Calls Try.prog 66 #[v, .int .u64 (n : Int)] w (New w (bs ++ (word4 (n / 4294967296) ++ word4 (n % 4294967296)))) := by
  have HW := Lib.hid (fun w => word_b (n / 4294967296) w (by omega))
  have HW2 := Lib.hid (fun w => word_b (n % 4294967296) w (by omega))
  rw [show ((n / 4294967296 : Nat) : Int) = (n : Int) / 4294967296 by omega] at HW
  rw [show ((n % 4294967296 : Nat) : Int) = (n : Int) % 4294967296 by omega] at HW2
  have HV := Lib.hid hv
  obtain ⟨a, m, c, rfl⟩ := hv.shape
  obtain ⟨y0, y1, y2, y3, hy⟩ : ∃ y0 y1 y2 y3, word4 (n / 4294967296) = [y0, y1, y2, y3] := ⟨_, _, _, _, rfl⟩
  obtain ⟨z0, z1, z2, z3, hz⟩ : ∃ y0 y1 y2 y3, word4 (n % 4294967296) = [y0, y1, y2, y3] := ⟨_, _, _, _, rfl⟩
  rw [hy] at HW ⊢
  rw [hz] at HW2 ⊢
  have HLL := Lib.hid hl
  have hn2 : (n : Int) ≤ 18446744073709551615 := by omega
  clear hv hn hl hy hz
  go_enter Try.func66, Try.ntmps66
  go_wp2_with fail
  refine (HW.out _).mono ?_; rintro e w2 ⟨rfl, h1⟩
  have H1 := Lib.hid h1; clear h1
  simp only [List.map_cons, List.map_nil, u8v]
  go_wp2_with fail
  refine (HW2.out _).mono ?_; rintro e w3 ⟨rfl, h2⟩
  have H2 := Lib.hid h2; clear h2
  simp only [List.map_cons, List.map_nil, u8v]
  go_wp2_with fail
  have g1 := World.grownBy_alloc w3 (.cells #[.int .u8 y0.toNat, .int .u8 y1.toNat, .int .u8 y2.toNat, .int .u8 y3.toNat] 75) none
  have g2 := World.grownBy_alloc (w3.alloc (.cells #[.int .u8 y0.toNat, .int .u8 y1.toNat, .int .u8 y2.toNat, .int .u8 y3.toNat] 75)) (.cells #[.int .u8 z0.toNat, .int .u8 z1.toNat, .int .u8 z2.toNat, .int .u8 z3.toNat] 75) none
  have hY := (bts_four (t := 75) y0 y1 y2 y3 (heap_alloc_new w3 _)).new g2
  have hZ := bts_four (t := 75) z0 z1 z2 z3 (heap_alloc_new (w3.alloc (.cells #[.int .u8 y0.toNat, .int .u8 y1.toNat, .int .u8 y2.toNat, .int .u8 y3.toNat] 75)) _)
  have hs : (w3.alloc (.cells #[.int .u8 y0.toNat, .int .u8 y1.toNat, .int .u8 y2.toNat, .int .u8 y3.toNat] 75)).heap.size = w3.heap.size + 1 := by simp
  rw [hs] at hZ
  clear hs
  have hg := World.grownBy.trans (World.grownBy.trans H1.out H2.out) (World.grownBy.trans g1 g2)
  clear g1 g2
  generalize (w3.alloc (.cells #[.int .u8 y0.toNat, .int .u8 y1.toNat, .int .u8 y2.toNat, .int .u8 y3.toNat] 75)).alloc (.cells #[.int .u8 z0.toNat, .int .u8 z1.toNat, .int .u8 z2.toNat, .int .u8 z3.toNat] 75) = w4 at *
  have HY := Lib.hid hY; have HZ := Lib.hid hZ; have HG := Lib.hid hg
  clear hY hZ hg
  have HL : Hid (bs.length + [y0, y1, y2, y3].length + [z0, z1, z2, z3].length ≤ 140737488355328) := Lib.hid (by have := HLL.out; simp; omega)
  go_region_held3 (fun w' => True) (trivial) (first | (go_at_call 42; refine (concat3 _ _ _ _ _ bs [y0, y1, y2, y3] [z0, z1, z2, z3] 55 w _ (by exact World.grownBy.trans HG.out (World.grownBy.trans (World.grownBy_alloc _ _ _) (drew_grown _ _))) (by exact heap_alloc_new w4 _) (by exact ((HV.out.new HG.out).new (World.grownBy_alloc _ _ _)).new (drew_grown _ _)) (by exact (HY.out.new (World.grownBy_alloc _ _ _)).new (drew_grown _ _)) (by exact (HZ.out.new (World.grownBy_alloc _ _ _)).new (drew_grown _ _)) HL.out).mono ?_; rintro e w3 ⟨v3, rfl, h3, h4⟩; obtain ⟨a3, n3, c3, rfl⟩ := h3.bts.shape; have H3 := Lib.hid h3; have H4 := Lib.hid h4; clear h3 h4))
  go_wp2_with fail
  go_ret
  exact ⟨_, rfl, H3.out, H4.out⟩

theorem run_arr4 (g q : Nat) (hq : q ≤ 4) (w : World) : (Instr.sliceAt 75 (.pointer (some ⟨g, 0, none⟩)) none (some (.int .i64 (q : Int))) none).run Try.prog w = .ok (.slice (some ⟨g, 0, none⟩) q 4) w := by
  have h4 : ¬ 4 < q := by omega
  simp [Instr.sliceAt, Instr.sliceBounds, Instr.sliceBound, run_underlying und53, asIntOf, go_sem, h4, Addr.add]

theorem bytesWorld_grown (w : World) (e : TypeId) (s : ByteArray) : w.grownBy (Lib.bytesWorld w e s) none :=
  ⟨rfl, rfl, rfl, by rw [Lib.bytesWorld_size]; omega, fun k hk _ => Lib.bytesWorld_at_old w e s k hk⟩

theorem bytesWorld_bts (w : World) (s : ByteArray) (hs : s.size ≤ 100000000000) : Bts (Lib.bytesWorld w 5 s) (.slice (some ⟨w.heap.size, 0, none⟩) s.size (grownCap w s.size 0 5)) s.data.toList := by
  have hz : s.data.toList.length = s.size := by simp
  refine .inr (.inl ⟨w.heap.size, 0, grownCap w s.size 0 5, by rw [hz], by rw [hz]; exact grownCap_ge _ _ _ _, grownCap_le_maxLen _ _ _ _ (by unfold maxLen; omega), fun i hi => ?_⟩)
  rw [Nat.zero_add, Lib.bytesWorld_cell _ _ _ _ (by omega)]
  simp [List.getD, List.getElem?_eq_getElem hi]

theorem bts_zeros {w : World} {g : Nat} {t : TypeId} (q : Nat) (hq : q ≤ 4) (h : w.heap[g]? = some (.cells #[.int .u8 0, .int .u8 0, .int .u8 0, .int .u8 0] t (0, 0))) :
    Bts w (.slice (some ⟨g, 0, none⟩) q 4) (List.replicate q 0) := by
  refine .inr (.inl ⟨g, 0, 4, by simp, by simpa using hq, by unfold maxLen; omega, fun i hi => ?_⟩)
  simp at hi
  match i, hi with
  | 0, _ => simp [World.cell?, h]
  | 1, _ => simp [World.cell?, h]
  | 2, _ => simp [World.cell?, h]
  | 3, _ => simp [World.cell?, h]
  | i + 4, hi => omega

set_option maxRecDepth 20000 in
set_option maxHeartbeats 800000 in
theorem Fixed_any (v : Value) (bs : List UInt8) (s : ByteArray) (w : World) (hv : Bts w v bs) (hl : bs.length ≤ 100000000000) (hs : s.size ≤ 100000000000) :
    Calls Try.prog 68 #[v, .string s] w (New w (bs ++ (s.data.toList ++ List.replicate (pad s.size) 0))) := by
  have HV := Lib.hid hv
  have HF := Lib.hid (fun w => fill_any s.size w (by unfold maxLen; omega))
  have hp : pad s.size ≤ 4 := by unfold pad; omega
  obtain ⟨a, m, c, rfl⟩ := hv.shape
  have HLL := Lib.hid hl
  have HS := Lib.hid hs
  have hcv : ∀ w : World, (convert 9 55 (.string s)).run Try.prog w = .ok (.slice (some ⟨w.heap.size, 0, none⟩) s.size (grownCap w s.size 0 5)) (Lib.bytesWorld w 5 s) := fun w => Lib.run_convert_string_bytes w _ _ _ s und9 und22 und5
  clear hv hl
  generalize pad s.size = q at *
  have hA := run_arr4 w.heap.size q hp
  go_enter Try.func68, Try.ntmps68
  go_wp2_with fail
  clear hcv
  have g1 := World.grownBy_alloc w (.cells #[.int .u8 0, .int .u8 0, .int .u8 0, .int .u8 0] 75) none
  have g2 := bytesWorld_grown (w.alloc (.cells #[.int .u8 0, .int .u8 0, .int .u8 0, .int .u8 0] 75)) 5 s
  have hZ := (bts_zeros (t := 75) q hp (heap_alloc_new w _)).new g2
  have hT := bytesWorld_bts (w.alloc (.cells #[.int .u8 0, .int .u8 0, .int .u8 0, .int .u8 0] 75)) s HS.out
  have hz : (w.alloc (.cells #[.int .u8 0, .int .u8 0, .int .u8 0, .int .u8 0] 75)).heap.size = w.heap.size + 1 := by simp
  rw [hz] at hT
  clear hz
  have hg := World.grownBy.trans g1 g2
  clear g1 g2
  generalize Lib.bytesWorld (w.alloc (.cells #[.int .u8 0, .int .u8 0, .int .u8 0, .int .u8 0] 75)) 5 s = w4 at *
  generalize grownCap (w.alloc (.cells #[.int .u8 0, .int .u8 0, .int .u8 0, .int .u8 0] 75)) s.size 0 5 = cp at *
  have HZ := Lib.hid hZ; have HT := Lib.hid hT; have HG := Lib.hid hg
  clear hZ hT hg
  have HL : Hid (bs.length + s.data.toList.length + (List.replicate q (0 : UInt8)).length ≤ 140737488355328) := Lib.hid (by
    have := HLL.out; have := HS.out; have hz : s.data.toList.length = s.size := by simp
    rw [hz]; simp; omega)
  refine (HF.out _).mono ?_; rintro e w5 ⟨rfl, rfl⟩
  go_wp2_with fail
  have g2 := fun o => World.grownBy_alloc w4 o none
  refine (concat3 _ _ _ _ _ bs s.data.toList (List.replicate q 0) _ w _ (World.grownBy.trans HG.out (g2 _)) (heap_alloc_new w4 _) ((HV.out.new HG.out).new (g2 _)) (HT.out.new (g2 _)) (HZ.out.new (g2 _)) HL.out).mono ?_
  rintro e w3 ⟨v3, rfl, h3, h4⟩
  obtain ⟨a3, n3, c3, rfl⟩ := h3.bts.shape
  have H3 := Lib.hid h3; have H4 := Lib.hid h4
  clear h3 h4 g2 hA
  go_wp2_with fail
  go_ret
  exact ⟨_, rfl, H3.out, H4.out⟩

/-- The bytes that a text becomes. -/
def fixedB (s : List UInt8) : List UInt8 := s ++ List.replicate (pad s.length) 0
def textB (s : List UInt8) : List UInt8 := word4 s.length ++ fixedB s
def longB (n : Nat) : List UInt8 := word4 (n / 4294967296) ++ word4 (n % 4294967296)
def flagB (b : Bool) : List UInt8 := word4 (if b then 1 else 0)

set_option maxRecDepth 20000 in
set_option maxHeartbeats 400000 in
theorem Text_any (v : Value) (bs : List UInt8) (s : ByteArray) (w : World) (hv : Bts w v bs) (hl : bs.length ≤ 1000000000) (hs : s.size ≤ 1000000000) :
    Calls Try.prog 39 #[v, .string s] w (New w (bs ++ textB s.data.toList)) := by
  have HW := Lib.hid (Word_any v bs s.size w hv (by omega) (by omega))
  have hz : s.data.toList.length = s.size := by simp
  have HE : Hid ((bs ++ word4 s.size) ++ (s.data.toList ++ List.replicate (pad s.size) 0) = bs ++ textB s.data.toList) := Lib.hid (by unfold textB fixedB; rw [hz]; simp)
  obtain ⟨a, m, c, rfl⟩ := hv.shape
  have HLL := Lib.hid hl
  have HS := Lib.hid hs
  clear hv hl hz
  go_enter Try.func39, Try.ntmps39
  go_wp2_with fail
  refine HW.out.mono ?_; rintro e w2 ⟨v2, rfl, h1, h2⟩
  obtain ⟨a2, n2, c2, rfl⟩ := h1.bts.shape
  have HX := Lib.hid (Fixed_any _ _ s w2 h1.bts (by have := HLL.out; simp [word4]; omega) (by have := HS.out; omega))
  have H2 := Lib.hid h2
  clear h1 h2
  go_wp2_with fail
  refine HX.out.mono ?_; rintro e w3 ⟨v3, rfl, h1, h3⟩
  obtain ⟨a3, n3, c3, rfl⟩ := h1.bts.shape
  rw [HE.out] at h1
  have H1 := Lib.hid (h1.base H2.out.size); have H3 := Lib.hid h3
  clear h1 h3
  go_wp2_with fail
  go_ret
  exact ⟨_, rfl, H1.out, World.grownBy.trans H2.out H3.out⟩

set_option maxRecDepth 20000 in
set_option maxHeartbeats 400000 in
theorem Flag_any (v : Value) (bs : List UInt8) (b : Bool) (w : World) (hv : Bts w v bs) (hl : bs.length ≤ 1000000000) :
    Calls Try.prog 67 #[v, .bool b] w (New w (bs ++ flagB b)) := by
  have HW := Lib.hid (Word_any v bs (if b then 1 else 0) w hv (by omega) (by cases b <;> simp))
  obtain ⟨a, m, c, rfl⟩ := hv.shape
  clear hv hl
  unfold flagB
  cases b
  all_goals
    go_enter Try.func67, Try.ntmps67
    go_wp2_with fail
    refine HW.out.mono ?_; rintro e w3 ⟨v3, rfl, h1, h3⟩
    obtain ⟨a3, n3, c3, rfl⟩ := h1.bts.shape
    have H1 := Lib.hid h1; have H3 := Lib.hid h3
    clear h1 h3
    go_wp2_with fail
    go_ret
    exact ⟨_, rfl, H1.out, H3.out⟩

/-- An int as 64 bits. -/
def bits64 (n : Int) : Nat := (n % 18446744073709551616).toNat

set_option maxRecDepth 20000 in
set_option maxHeartbeats 400000 in
theorem Int_any (v : Value) (bs : List UInt8) (n : Int) (w : World) (hv : Bts w v bs) (hl : bs.length ≤ 1000000000) :
    Calls Try.prog 38 #[v, .int .i64 n] w (New w (bs ++ longB (bits64 n))) := by
  have HE : Hid (IntKind.u64.wrap n = (bits64 n : Int)) := Lib.hid (by unfold bits64; rw [IntKind.wrap_u64]; omega)
  have HW := Lib.hid (Long_any v bs (bits64 n) w hv (by omega) (by unfold bits64; omega))
  obtain ⟨a, m, c, rfl⟩ := hv.shape
  clear hv hl
  unfold longB
  go_enter Try.func38, Try.ntmps38
  go_wp2_with fail

  rw [HE.out]
  refine HW.out.mono ?_; rintro e w3 ⟨v3, rfl, h1, h3⟩
  obtain ⟨a3, n3, c3, rfl⟩ := h1.bts.shape
  have H1 := Lib.hid h1; have H3 := Lib.hid h3
  clear h1 h3
  go_wp2_with fail
  go_ret
  exact ⟨_, rfl, H1.out, H3.out⟩
end Go.Proofs.Ytpklgcinijlmmaa
