/- Results as words: an Attr. -/
import Derived.Test.YtpklgcinijlmmaaArgE
namespace Go.Proofs.Ytpklgcinijlmmaa
open Go.RowKit

structure At where
  k : Int
  m : Int
  l : Int
  s : Int
  mt : Int
  ct : Int
  i : Int
  g : Int
deriving DecidableEq
def noAt : At := ⟨0, 0, 0, 0, 0, 0, 0, 0⟩
def atC (a : At) : Array Value := #[.int .u8 a.k, .int .i64 a.m, .int .i64 a.l, .int .i64 a.s, .int .i64 a.mt, .int .i64 a.ct, .int .i64 a.i, .int .i64 a.g]
def at7 (a : At) : List Int := [a.m, a.l, a.s, a.mt, a.ct, a.i, a.g]
def ints (l : List Int) : List UInt8 := l.flatMap fun n => longB (bits64 n)
def attrB (a : At) : List UInt8 := word4 a.k.toNat ++ ints (at7 a)

theorem ints_len (l : List Int) : (ints l).length = 8 * l.length := by
  induction l with
  | nil => rfl
  | cons n l ih =>
    unfold ints at *
    rw [List.flatMap_cons, List.length_append, ih, longB_len, List.length_cons]
    omega
theorem attrB_len (a : At) : (attrB a).length = 60 := by
  unfold attrB
  rw [List.length_append, ints_len, word4_len]
  rfl

set_option maxRecDepth 20000 in
set_option maxHeartbeats 4000000 in
theorem refAttr_any (v : Value) (bs : List UInt8) (a : At) (w : World) (hv : Bts w v bs) (hl : bs.length ≤ 1000000) (hk : 0 ≤ a.k ∧ a.k < 256) : Calls Try.prog 59 #[v, .agg (atC a)] w (New w (bs ++ attrB a)) := by
  obtain ⟨ns, hns⟩ : ∃ ns, ns = at7 a := ⟨_, rfl⟩
  have hlen : ns.length = 7 := by rw [hns]; rfl
  have HX : Hid (∀ j, j < 7 → ((ns.map (Value.int IntKind.i64)).toArray)[j]? = some (.int .i64 (ns.getD j 0))) := Lib.hid (fun j h => by
    simp [List.getD, List.getElem?_eq_getElem (show j < ns.length by omega)])
  have HS : Hid (∀ j, j < 7 → ints (ns.take (j + 1)) = ints (ns.take j) ++ longB (bits64 (ns.getD j 0))) := Lib.hid (fun j h => by
    unfold ints
    rw [List.take_succ_eq_append_getElem (show j < ns.length by omega), List.flatMap_append]
    simp [List.getD, List.getElem?_eq_getElem (show j < ns.length by omega)])
  have HN : Hid (ints (ns.take 7) = ints ns) := Lib.hid (by rw [List.take_of_length_le (by omega)])
  have HE : Hid (bs ++ word4 a.k.toNat ++ ints ns = bs ++ attrB a) := Lib.hid (by unfold attrB; rw [List.append_assoc, hns])
  have HLN : Hid (∀ j, (ints (ns.take j)).length ≤ 56) := Lib.hid (fun j => by
    rw [ints_len, List.length_take]
    have : min j ns.length ≤ 7 := by rw [hlen]; exact Nat.min_le_right _ _
    omega)
  have HA7 : Hid (((ns.map (Value.int IntKind.i64)).toArray) = #[.int .i64 a.m, .int .i64 a.l, .int .i64 a.s, .int .i64 a.mt, .int .i64 a.ct, .int .i64 a.i, .int .i64 a.g]) := Lib.hid (by rw [hns]; rfl)
  generalize bs ++ attrB a = T at *
  clear hns hlen
  obtain ⟨k, m, l, s, mt, ct, i, g⟩ := a
  obtain ⟨k, rfl⟩ := Int.eq_ofNat_of_zero_le hk.1
  unfold atC
  dsimp only at HA7 HE hk ⊢
  rw [Int.toNat_natCast] at HE
  have HBL := Lib.hid hl
  have HK := Lib.hid (show k < 256 by omega)
  have hkw : IntKind.u32.wrap (k : Int) = k := by rw [IntKind.wrap_u32]; omega
  go_enter Try.func59, Try.ntmps59
  go_upto_region 1 with fail
  have hb := Blk.made w 39 #[.int .u8 (k : Int), .int .i64 m, .int .i64 l, .int .i64 s, .int .i64 mt, .int .i64 ct, .int .i64 i, .int .i64 g]
  have ga := World.grownBy_alloc w (.cells #[.int .u8 (k : Int), .int .i64 m, .int .i64 l, .int .i64 s, .int .i64 mt, .int .i64 ct, .int .i64 i, .int .i64 g] 39) none
  have hv1 := hv.new ga
  have HSZ : Hid (w.heap.size ≤ (w.alloc (.cells #[.int .u8 (k : Int), .int .i64 m, .int .i64 l, .int .i64 s, .int .i64 mt, .int .i64 ct, .int .i64 i, .int .i64 g] 39)).heap.size) := Lib.hid ga.size
  generalize w.alloc (.cells #[.int .u8 (k : Int), .int .i64 m, .int .i64 l, .int .i64 s, .int .i64 mt, .int .i64 ct, .int .i64 i, .int .i64 g] 39) = w1 at *
  obtain ⟨W0, hW0⟩ : ∃ W0, W0 = w.heap.size := ⟨_, rfl⟩
  rw [← hW0] at hb HSZ ⊢
  have HW0 := Lib.hid hW0
  have hw := refWord_any v bs k w1 hv1 (by have := HBL.out; omega) (by have := HK.out; omega)
  obtain ⟨a0, n0, c0, rfl⟩ := hv1.shape
  have B_h := Lib.hid hb
  have G := Lib.hid ga
  clear hb ga hv1 hv hl hk hW0
  have q0 := B_h.out.cell (i := 0) (x := .int .u8 (k : Int)) rfl
  have q1 := B_h.out.cell (i := 1) (x := .int .i64 m) rfl
  have q2 := B_h.out.cell (i := 2) (x := .int .i64 l) rfl
  have q3 := B_h.out.cell (i := 3) (x := .int .i64 s) rfl
  have q4 := B_h.out.cell (i := 4) (x := .int .i64 mt) rfl
  have q5 := B_h.out.cell (i := 5) (x := .int .i64 ct) rfl
  have q6 := B_h.out.cell (i := 6) (x := .int .i64 i) rfl
  have q7 := B_h.out.cell (i := 7) (x := .int .i64 g) rfl
  go_wp2_with fail
  refine hw.mono ?_; rintro e w2 ⟨v2, rfl, h6, g1⟩
  obtain ⟨a2, n2, c2', rfl⟩ := h6.bts.shape
  have OW := Lib.hid (h6.base (b' := W0) HSZ.out)
  replace B_h := Lib.hid (B_h.out.new g1)
  replace G := Lib.hid (World.grownBy.trans G.out g1)
  clear h6 g1 hw q0 q1 q2 q3 q4 q5 q6 q7
  have q0 := B_h.out.cell (i := 0) (x := .int .u8 (k : Int)) rfl
  have q1 := B_h.out.cell (i := 1) (x := .int .i64 m) rfl
  have q2 := B_h.out.cell (i := 2) (x := .int .i64 l) rfl
  have q3 := B_h.out.cell (i := 3) (x := .int .i64 s) rfl
  have q4 := B_h.out.cell (i := 4) (x := .int .i64 mt) rfl
  have q5 := B_h.out.cell (i := 5) (x := .int .i64 ct) rfl
  have q6 := B_h.out.cell (i := 6) (x := .int .i64 i) rfl
  have q7 := B_h.out.cell (i := 7) (x := .int .i64 g) rfl
  go_upto_region 3 with fail
  have hs := Blk.made w2 3 #[.int .i64 m, .int .i64 l, .int .i64 s, .int .i64 mt, .int .i64 ct, .int .i64 i, .int .i64 g]
  have ga := World.grownBy_alloc w2 (.cells #[.int .i64 m, .int .i64 l, .int .i64 s, .int .i64 mt, .int .i64 ct, .int .i64 i, .int .i64 g] 3) none
  replace G := Lib.hid (World.grownBy.trans G.out ga)
  have OW2 := Lib.hid (OW.out.new ga)
  generalize w2.alloc (.cells #[.int .i64 m, .int .i64 l, .int .i64 s, .int .i64 mt, .int .i64 ct, .int .i64 i, .int .i64 g] 3) = w3 at *
  generalize w2.heap.size = S at *
  rw [← HA7.out] at hs
  have B_s := Lib.hid hs
  clear hs ga q0 q1 q2 q3 q4 q5 q6 q7 OW B_h
  go_wp2_with fail
  go_loopw [0, 6] (fun bv i w' => ∃ j : Nat, j ≤ 7 ∧ i = .int .i64 j ∧ Own w' W0 bv (bs ++ word4 k ++ ints (ns.take j)) ∧ w.grownBy w' none ∧ Blk w' S 3 (ns.map (Value.int IntKind.i64)).toArray) (fun _ i w' => 7 - (intOf i).toNat)
  case atStart => exact ⟨0, Nat.zero_le _, rfl, by have := OW2.out; simpa [ints] using this, G.out, B_s.out⟩
  case round =>
    clear OW2 G B_s
    obtain ⟨j, hj, rfl, hown, hg, hblk⟩ := hrel
    obtain ⟨a5, n5, c5, rfl⟩ := hown.bts.shape
    have OW := Lib.hid hown
    have G := Lib.hid hg
    have B_s := Lib.hid hblk
    clear hown hg hblk
    by_cases hlt : j < 7
    · have hc := B_s.out.cell (HX.out j hlt)
      have hjl : (j : Int) ≤ 6 := by omega
      have hcall := Lib.hid (refInt_any _ (bs ++ word4 k ++ ints (ns.take j)) (ns.getD j 0) wr OW.out.bts (by have h1 := HBL.out; have h2 := HLN.out j; simp only [List.length_append, word4_len]; omega))
      have HSJ := Lib.hid (HS.out j hlt)
      generalize ns.getD j 0 = nn at *
      go_wp2_with fail
      refine hcall.out.mono ?_; rintro e0 w4 ⟨v5, rfl, h6, g1⟩
      obtain ⟨a6, n6, c6, rfl⟩ := h6.bts.shape
      have H6 := Lib.hid (h6.base (b' := W0) (by have := G.out.size; have := HW0.out; omega))
      replace G := Lib.hid (World.grownBy.trans G.out g1)
      replace B_s := Lib.hid (B_s.out.new g1)
      clear g1 h6 hcall hc
      go_wp2_with fail
      go_roundw
      case rel => exact ⟨j + 1, by omega, by go_num, by have := H6.out; rw [List.append_assoc, ← HSJ.out] at this; exact this, G.out, B_s.out⟩
      case measure => simp [intOf]; omega
    · obtain rfl : j = 7 := by omega
      rw [HN.out, HE.out] at OW
      clear hlt hj
      go_wp2_with fail
      go_ret
      exact ⟨_, rfl, by have := OW.out; rw [HW0.out] at this; exact this, G.out⟩
end Go.Proofs.Ytpklgcinijlmmaa
