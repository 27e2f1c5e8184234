/- The code's hashes; texts of sums; sums of texts. -/
import Derived.Test.YtdicoojodefacaaDigB
namespace Go.Proofs.Ytdicoojodefacaa
open Go.RowKit

theorem grown_any {w w' : World} (h : w.grownBy w' none) (row : Option Nat) : w.grownBy w' row := ⟨h.os, h.tape, h.output, h.size, fun i hi _ => h.block i hi (by simp)⟩

/-- A hash in memory. -/
def Hsh (w : World) (r u : Nat) : Prop := Blk w r 48 #[.int .u64 ((u : Nat) : Int)]

set_option maxRecDepth 20000 in
set_option maxHeartbeats 400000 in
theorem new_any (w : World) : Calls Try.prog 23 #[] w fun e w' => e = .returned (.pointer (some ⟨w.heap.size, 0, none⟩)) ∧ Hsh w' w.heap.size fnv0 ∧ w.grownBy w' none := by
  have hb : Hsh (w.alloc (.cells #[.int .u64 14695981039346656037] 48)) w.heap.size fnv0 := Blk.made w _ _
  have HB := Lib.hid hb
  clear hb
  go_enter Try.func23, Try.ntmps23
  go_wp2_with fail
  go_ret
  exact ⟨rfl, HB.out, World.grownBy_alloc _ _ _⟩

set_option maxRecDepth 20000 in
set_option maxHeartbeats 400000 in
theorem hwrite_nil (v : Value) (bs : List UInt8) (w : World) (hv : Bts w v bs) : Calls Try.prog 20 #[.pointer none, v] w fun e w' => e = .returned (.tuple #[]) ∧ w = w' := by
  obtain ⟨a, n, c, rfl⟩ := hv.shape
  clear hv
  go_enter Try.func20, Try.ntmps20
  go_wp2_with fail
  go_end0
  exact ⟨rfl, rfl⟩

set_option maxRecDepth 20000 in
set_option maxHeartbeats 400000 in
theorem hwrite_any (r u : Nat) (v : Value) (bs : List UInt8) (w : World) (hr : Hsh w r u) (hu : u < fnvM) (hv : Bts w v bs) (hl : bs.length ≤ 140737488355328) :
    Calls Try.prog 20 #[.pointer (some ⟨r, 0, none⟩), v] w fun e w' => e = .returned (.tuple #[]) ∧ Hsh w' r (sumOn fnvM fnvP u bs) ∧ w.grownBy w' (some r) := by
  have HA := Lib.hid (add_bts u bs v w hu hl hv)
  obtain ⟨a, n, c, rfl⟩ := hv.shape
  have c0 := hr.cell (i := 0) (x := .int .u64 ((u : Nat) : Int)) rfl
  have HR := Lib.hid hr
  clear hv hr hl hu
  generalize sumOn fnvM fnvP u bs = z at *
  go_enter Try.func20, Try.ntmps20
  go_wp2_with fail
  refine HA.out.mono ?_; rintro e w1 ⟨rfl, h1⟩
  have H1 := Lib.hid h1
  have HR1 := Lib.hid (HR.out.new h1)
  have c1 := HR1.out.cell (i := 0) (x := .int .u64 ((u : Nat) : Int)) rfl
  have f1 := HR1.out.frozen 0
  clear h1 c0
  go_wp2_with fail
  go_end0
  exact ⟨rfl, HR1.out.set 0 _, Lib.grownBy_setB (grown_any H1.out _) 0 _⟩

set_option maxRecDepth 20000 in
set_option maxHeartbeats 400000 in
theorem hsum_nil (w : World) : Calls Try.prog 22 #[.pointer none] w (U64 w fnv0) := by
  have e : ((fnv0 : Nat) : Int) = 14695981039346656037 := rfl
  unfold U64
  rw [e]
  go_enter Try.func22, Try.ntmps22
  go_wp2_with fail
  go_ret
  exact ⟨rfl, World.grownBy.refl _ _⟩

set_option maxRecDepth 20000 in
set_option maxHeartbeats 400000 in
theorem hsum_any (r u : Nat) (w : World) (hr : Hsh w r u) : Calls Try.prog 22 #[.pointer (some ⟨r, 0, none⟩)] w (U64 w u) := by
  have c0 := hr.cell (i := 0) (x := .int .u64 ((u : Nat) : Int)) rfl
  clear hr
  go_enter Try.func22, Try.ntmps22
  go_wp2_with fail
  go_ret
  exact ⟨rfl, World.grownBy.refl _ _⟩

set_option maxRecDepth 20000 in
set_option maxHeartbeats 400000 in
theorem hcopy_nil (w : World) : Calls Try.prog 21 #[.pointer none] w fun e w' => e = .returned (.pointer none) ∧ w = w' := by
  go_enter Try.func21, Try.ntmps21
  go_wp2_with fail
  go_ret
  exact ⟨rfl, rfl⟩

set_option maxRecDepth 20000 in
set_option maxHeartbeats 400000 in
theorem hcopy_any (r u : Nat) (w : World) (hr : Hsh w r u) : Calls Try.prog 21 #[.pointer (some ⟨r, 0, none⟩)] w fun e w' => e = .returned (.pointer (some ⟨w.heap.size, 0, none⟩)) ∧ Hsh w' w.heap.size u ∧ w.grownBy w' none := by
  have c0 := hr.cell (i := 0) (x := .int .u64 ((u : Nat) : Int)) rfl
  clear hr
  go_enter Try.func21, Try.ntmps21
  go_wp2_with fail
  go_ret
  exact ⟨rfl, Blk.made w _ _, World.grownBy_alloc _ _ _⟩

/-- The digits, in their order. -/
def digL : List UInt8 := [48, 49, 50, 51, 52, 53, 54, 55, 56, 57, 97, 98, 99, 100, 101, 102]
/-- A letter's place, or -1. -/
def didx (c : UInt8) : Int := match dval c with | none => -1 | some d => (d : Int)
theorem idx_digs (c : UInt8) : Lib.indexByte digL c = didx c := by
  have key : ∀ n : Fin 256, Lib.indexByte digL (UInt8.ofNat n.1) = didx (UInt8.ofNat n.1) := by decide +kernel
  have := key ⟨c.toNat, c.toNat_lt⟩
  simp only [UInt8.ofNat_toNat] at this
  exact this

set_option maxRecDepth 20000 in
set_option maxHeartbeats 400000 in
theorem slidx_any (s : ByteArray) (c : UInt8) (w : World) : Calls Try.prog 30 #[.string s, .int .u8 (c.toNat : Int)] w fun e w' => e = .returned (.int .i64 (Lib.indexByte s.data.toList c)) ∧ w = w' := by
  have e : ((c.toNat : Int)).toNat.toUInt8 = c := by simp
  have HE := Lib.hid e
  clear e
  go_enter Try.func30, Try.ntmps30
  go_wp2_with fail
  rw [run_callFunc_extern Try.func32 (by kernel_rfl) (by kernel_rfl) (by kernel_rfl) (e := Extern.BytealgIndexByte.indexByte) (by kernel_rfl), Lib.run_indexByteString]
  simp only [Result.andThen]
  rw [Oper.upon_value, HE.out]
  go_wp2_with fail
  go_ret
  exact ⟨rfl, rfl⟩

set_option maxRecDepth 20000 in
set_option maxHeartbeats 400000 in
theorem idx_any (c : UInt8) (w : World) : Calls Try.prog 24 #[.string ⟨#[48, 49, 50, 51, 52, 53, 54, 55, 56, 57, 97, 98, 99, 100, 101, 102]⟩, .int .u8 (c.toNat : Int)] w fun e w' => e = .returned (.int .i64 (didx c)) ∧ w = w' := by
  have HA := Lib.hid (slidx_any ⟨#[48, 49, 50, 51, 52, 53, 54, 55, 56, 57, 97, 98, 99, 100, 101, 102]⟩ c w)
  have e : Lib.indexByte (ByteArray.mk #[48, 49, 50, 51, 52, 53, 54, 55, 56, 57, 97, 98, 99, 100, 101, 102]).data.toList c = didx c := idx_digs c
  rw [e] at HA
  generalize didx c = d at *
  clear e
  go_enter Try.func24, Try.ntmps24
  go_wp2_with fail
  refine HA.out.mono ?_; rintro e w1 ⟨rfl, rfl⟩
  go_wp2_with fail
  go_ret
  exact ⟨rfl, rfl⟩
end Go.Proofs.Ytdicoojodefacaa
