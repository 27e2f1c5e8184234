/- The document's Write. -/
import Derived.Test.YtkhlmfnfcdhceaaCallV0
namespace Go.Proofs.Ytkhlmfnfcdhceaa
open Go.RowKit

theorem str_app (x y : List UInt8) : ((⟨x.toArray⟩ : ByteArray) ++ ⟨y.toArray⟩) = ⟨(x ++ y).toArray⟩ := by
  apply ByteArray.ext
  simp

set_option maxRecDepth 20000 in
set_option maxHeartbeats 4000000 in
theorem rwrite_ok (c x p : Nat) (b : List UInt8) (w : World) (hc : 1 ≤ c ∧ c ≤ 16) (hx : x < 4294967296) (hp : p < 4294967296) (h4 : b.length % 4 = 0) (h : b.length ≤ 1000000000) (t : List UInt8 × Int)
    (ht : 4072 < b.length ∧ t = ([], 40) ∨ b.length ≤ 4072 ∧ t = (hdB ⟨c, x, p, b⟩, 0)) :
    Calls Try.prog 16 #[hdV ⟨c, x, p, b⟩] w (TE w t) := by
  have HX := Lib.hid (fun w => rword_any x w)
  have HP := Lib.hid (fun w => rword_any p w)
  rw [decide_eq_true (by unfold isW; omega)] at HX
  rw [decide_eq_true (by unfold isW; omega)] at HP
  have HE := Lib.hid (hdB_cat x c p b h4)
  rw [fixedB_whole h4] at HE
  have HLE := Lib.hid (hdB_len ⟨c, x, p, b⟩)
  obtain ⟨ws, hws⟩ : ∃ ws, ws = [x, 0, 284, 3, c, p] := ⟨_, rfl⟩
  have HW := Lib.hid (show ∀ n ∈ ws, n < 4294967296 by intro n hn; rw [hws] at hn; simp at hn; omega)
  have HL := Lib.hid h
  have HWL : Hid (ws.length = 6) := Lib.hid (by rw [hws]; rfl)
  have HWS := Lib.hid hws
  have h4' : ((b.length : Int) % 4 != 0) = false := by simp; omega
  have hl : (b.length : Int) ≤ 1000000000 := by omega
  have hc1 : decide ((c : Int) < 1) = false := by simp; omega
  have hc2 : decide (16 < (c : Int)) = false := by simp; omega
  have HT := Lib.hid ht
  rw [← hws] at HE
  clear h hx hp h4 hc hws ht
  unfold hdV txt
  go_enter Try.func16, Try.ntmps16
  go_wp2_with (first
      | (go_at_call 31; refine (HX.out _).mono ?_; rintro e w' ⟨rfl, rfl⟩)
      | (go_at_call 31; refine (HP.out _).mono ?_; rintro e w' ⟨rfl, rfl⟩))
  have g1 := World.grownBy_alloc w (.cells #[Value.int IntKind.i64 ↑c, Value.int IntKind.i64 ↑x, Value.int IntKind.i64 ↑p, Value.string ⟨b.toArray⟩] 42) none
  have hblk := Blk.made w 42 #[Value.int IntKind.i64 ↑c, Value.int IntKind.i64 ↑x, Value.int IntKind.i64 ↑p, Value.string ⟨b.toArray⟩]
  have hsz : w.heap.size + 1 = (w.alloc (.cells #[Value.int IntKind.i64 ↑c, Value.int IntKind.i64 ↑x, Value.int IntKind.i64 ↑p, Value.string ⟨b.toArray⟩] 42)).heap.size := by simp
  rw [hsz]
  clear hsz
  generalize w.alloc (.cells #[Value.int IntKind.i64 ↑c, Value.int IntKind.i64 ↑x, Value.int IntKind.i64 ↑p, Value.string ⟨b.toArray⟩] 42) = w1 at *
  have hN : Nums (w1.alloc (.cells #[Value.int IntKind.i64 ↑x, Value.int IntKind.i64 0, Value.int IntKind.i64 284, Value.int IntKind.i64 3, Value.int IntKind.i64 ↑c, Value.int IntKind.i64 ↑p] 3)) w1.heap.size ws := nums_at ws rfl (by rw [HWS.out]; rfl) HW.out
  have g2 := World.grownBy_alloc w1 (.cells #[Value.int IntKind.i64 ↑x, Value.int IntKind.i64 0, Value.int IntKind.i64 284, Value.int IntKind.i64 3, Value.int IntKind.i64 ↑c, Value.int IntKind.i64 ↑p] 3) none
  generalize w1.alloc (.cells #[Value.int IntKind.i64 ↑x, Value.int IntKind.i64 0, Value.int IntKind.i64 284, Value.int IntKind.i64 3, Value.int IntKind.i64 ↑c, Value.int IntKind.i64 ↑p] 3) = w2 at *
  have HG2 := Lib.hid (World.grownBy.trans g1 g2)
  have HB := Lib.hid (hblk.new g2)
  have HN := Lib.hid hN
  clear hN hblk g1 g2 HWS h4' hc1 hc2
  go_loopw [5, 6] (fun v i w' => ∃ k : Nat, k ≤ 6 ∧ i = .int .i64 k ∧ Own w' w2.heap.size v (cat (ws.take k)) ∧ w2.grownBy w' none) (fun _ i _ => 6 - (intOf i).toNat)
  case atStart => exact ⟨0, Nat.zero_le _, rfl, Own.nil _ _, World.grownBy.refl _ _⟩
  case round =>
    obtain ⟨k, hk, rfl, hown, hgr⟩ := hrel
    obtain ⟨a1, n1, c1, rfl⟩ := hown.bts.shape
    have HCL : Hid ((cat (ws.take k)).length ≤ 24) := Lib.hid (by rw [cat_len, List.length_take]; omega)
    by_cases hlt : k < 6
    · have hlt' : k < ws.length := by rw [HWL.out]; exact hlt
      obtain ⟨hcell, hx⟩ := HN.out k hlt'
      replace hcell := hgr.cell hcell (by simp)
      have HA := Lib.hid (cat_succ ws k hlt')
      have HW := Lib.hid (refWord_any _ _ ws[k] wr hown.bts (by have := HCL.out; omega) hx)
      have HG := Lib.hid hgr
      have hx2 : (ws[k] : Int) < 4294967296 := by omega
      have HLT := Lib.hid hlt
      have hk0 : (k : Int) < 6 := by omega
      clear hown hgr hx
      generalize ws[k] = y at *
      clear hk hlt hlt'
      generalize w1.heap.size = B at *
      go_wp2_with fail
      refine HW.out.mono ?_; rintro e w3 ⟨v2, rfl, h1, h2⟩
      obtain ⟨a2, n2, c2, rfl⟩ := h1.bts.shape
      rw [← HA.out] at h1
      have H1 := Lib.hid (h1.base HG.out.size); have H2 := Lib.hid h2
      clear h1 h2
      go_wp2_with fail
      go_roundw
      case rel => exact ⟨k + 1, by have := HLT.out; omega, by go_num, H1.out, World.grownBy.trans HG.out H2.out⟩
      case measure => simp [intOf]; have := HLT.out; omega
    · obtain rfl : k = 6 := by omega
      have hE : ws.take 6 = ws := List.take_of_length_le (by rw [HWL.out]; exact Nat.le_refl _)
      rw [hE] at hown HCL
      have hst := hown.bts.str und22 und5 und9
      have c3 := (HB.out.new hgr).cell (i := 3) rfl
      have HG := Lib.hid hgr
      have hcl : (((cat ws).length : Nat) : Int) = 24 := by rw [cat_len, HWL.out]; rfl
      have HS := Lib.hid (str_app (cat ws) b)
      rw [HE.out] at HS
      have HG3 := Lib.hid (World.grownBy.trans HG2.out HG.out)
      clear hown hgr hlt hE HG HG2 HCL HB
      rcases HT.out with ⟨h5, rfl⟩ | ⟨h5, rfl⟩
      · have h6 : (4072 : Int) < b.length := by omega
        go_wp2_with fail
        go_ret2
        exact ⟨rfl, HG3.out⟩
      · have h6 : (b.length : Int) ≤ 4072 := by omega
        go_wp2_with fail
        go_ret2
        exact ⟨congrArg (fun z => Ending.returned (.tuple #[Value.string z, .int .i64 0])) HS.out, HG3.out⟩
end Go.Proofs.Ytkhlmfnfcdhceaa
