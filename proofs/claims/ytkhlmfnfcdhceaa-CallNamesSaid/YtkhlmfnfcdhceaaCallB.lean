/- Words put one behind the other: call.put, and the statements' own words and many. -/
import Derived.Test.YtkhlmfnfcdhceaaCallA
import Derived.Laws.OwnMore
namespace Go.Proofs.Ytkhlmfnfcdhceaa
open Go.RowKit

/-- Numbers as words. -/
def cat (ws : List Nat) : List UInt8 := ws.flatMap word4

theorem cat_len (ws : List Nat) : (cat ws).length = 4 * ws.length := by
  induction ws with
  | nil => rfl
  | cons x l ih => unfold cat at *; rw [List.flatMap_cons, List.length_append, ih, List.length_cons]; simp [word4]; omega

theorem cat_succ (ws : List Nat) (k : Nat) (h : k < ws.length) : cat (ws.take (k + 1)) = cat (ws.take k) ++ word4 ws[k] := by
  unfold cat
  rw [List.take_succ_eq_append_getElem h, List.flatMap_append]
  simp

/-- A number as 32 bits. -/
def w32 (z : Int) : Nat := (z % 4294967296).toNat
theorem wrap_u32_w32 (z : Int) : IntKind.u32.wrap z = (w32 z : Int) := by rw [IntKind.wrap_u32]; unfold w32; omega

/-- A text told. -/
def TX (w : World) (bs : List UInt8) (e : Ending) (w' : World) : Prop := e = .returned (.string ⟨bs.toArray⟩) ∧ w.grownBy w' none

/-- The cells of a slice of numbers. -/
def Nums (w : World) (B : Nat) (ws : List Nat) : Prop := ∀ i (h : i < ws.length), w.cell? ⟨B, i, none⟩ = some (.int .i64 (ws[i] : Int)) ∧ ws[i] < 4294967296

set_option maxHeartbeats 800000 in
theorem put_any (s : ByteArray) (B c : Nat) (ws : List Nat) (w : World) (hs : s.size ≤ 1000000000) (hl : ws.length ≤ 1000) (hc : Nums w B ws) :
    Calls Try.prog 23 #[.string s, .slice (some ⟨B, 0, none⟩) ws.length c] w (TX w (cat ws ++ fixedB s.data.toList)) := by
  have HC := Lib.hid hc
  have HS := Lib.hid hs
  clear hc hs
  obtain ⟨n, hn⟩ : ∃ n, n = ws.length := ⟨_, rfl⟩
  rw [← hn] at hl ⊢
  have HN := Lib.hid hn; clear hn
  go_enter Try.func23, Try.ntmps23
  go_wp2_with fail
  go_loopw [5, 10] (fun v i w' => ∃ k : Nat, k ≤ n ∧ i = .int .i64 k ∧ Own w' w.heap.size v (cat (ws.take k)) ∧ w.grownBy w' none) (fun _ i _ => n - (intOf i).toNat)
  case atStart => exact ⟨0, Nat.zero_le _, rfl, Own.nil _ _, World.grownBy.refl _ _⟩
  case round =>
    obtain ⟨k, hk, rfl, hown, hgr⟩ := hrel
    obtain ⟨a1, n1, c1, rfl⟩ := hown.bts.shape
    have HL : Hid ((cat (ws.take k)).length ≤ 4000) := Lib.hid (by rw [cat_len, List.length_take]; omega)
    by_cases hlt : k < n
    · have hlt' : k < ws.length := by rw [← HN.out]; exact hlt
      obtain ⟨hcell, hx⟩ := HC.out k hlt'
      replace hcell := hgr.cell hcell (by simp)
      have HA := Lib.hid (cat_succ ws k hlt')
      have HW := Lib.hid (Word_any _ _ ws[k] wr hown.bts (by have := HL.out; omega) hx)
      have HG := Lib.hid hgr
      have hx2 : (ws[k] : Int) < 4294967296 := by omega
      clear hown hgr hx
      generalize ws[k] = x at *
      go_wp2_with fail
      refine HW.out.mono ?_; rintro e w2 ⟨v2, rfl, h1, h2⟩
      obtain ⟨a2, n2, c2, rfl⟩ := h1.bts.shape
      rw [← HA.out] at h1
      have H1 := Lib.hid (h1.base HG.out.size); have H2 := Lib.hid h2
      clear h1 h2
      go_wp2_with fail
      go_roundw
      case rel => exact ⟨k + 1, by omega, by go_num, H1.out, World.grownBy.trans HG.out H2.out⟩
      case measure => simp [intOf]; omega
    · obtain rfl : k = n := by omega
      have hE : ws.take k = ws := by rw [HN.out]; exact List.take_length
      rw [hE] at hown HL
      have HW := Lib.hid (Fixed_any _ _ s wr hown.bts (by have := HL.out; omega) (by have := HS.out; omega))
      have hfx : fixedB s.data.toList = s.data.toList ++ List.replicate (pad s.size) 0 := by unfold fixedB; rw [show s.data.toList.length = s.size by simp]
      rw [← hfx] at HW
      have HG := Lib.hid hgr
      clear hown hgr hlt hE hfx
      go_wp2_with fail
      refine HW.out.mono ?_; rintro e w2 ⟨v2, rfl, h1, h2⟩
      obtain ⟨a2, n2, c2, rfl⟩ := h1.bts.shape
      have hst := h1.bts.str und22 und5 und9
      have H2 := Lib.hid h2
      clear h1 h2
      go_wp2_with fail
      go_ret
      exact ⟨rfl, World.grownBy.trans HG.out H2.out⟩

set_option maxHeartbeats 800000 in
theorem words_any (B c : Nat) (zs : List Int) (w : World) (hl : zs.length ≤ 1000) (hc : ∀ i (h : i < zs.length), w.cell? ⟨B, i, none⟩ = some (.int .i64 zs[i])) :
    Calls Try.prog 12 #[.slice (some ⟨B, 0, none⟩) zs.length c] w (TX w (cat (zs.map w32))) := by
  have HC := Lib.hid hc
  clear hc
  obtain ⟨n, hn⟩ : ∃ n, n = zs.length := ⟨_, rfl⟩
  rw [← hn] at hl ⊢
  obtain ⟨ws, hws⟩ : ∃ ws, ws = zs.map w32 := ⟨_, rfl⟩
  have HZ : Hid (ws.length = zs.length ∧ ∀ i (h : i < zs.length) (h' : i < ws.length), IntKind.u32.wrap zs[i] = (ws[i] : Int) ∧ ws[i] < 4294967296) := Lib.hid (by subst hws; exact ⟨by simp, fun i h h' => by rw [List.getElem_map]; exact ⟨wrap_u32_w32 _, by unfold w32; omega⟩⟩)
  rw [← hws]
  clear hws
  have HN := Lib.hid hn; clear hn
  go_enter Try.func12, Try.ntmps12
  go_wp2_with fail
  go_loopw [3, 4] (fun v i w' => ∃ k : Nat, k ≤ n ∧ i = .int .i64 k ∧ Own w' w.heap.size v (cat (ws.take k)) ∧ w.grownBy w' none) (fun _ i _ => n - (intOf i).toNat)
  case atStart => exact ⟨0, Nat.zero_le _, rfl, Own.nil _ _, World.grownBy.refl _ _⟩
  case round =>
    obtain ⟨k, hk, rfl, hown, hgr⟩ := hrel
    obtain ⟨a1, n1, c1, rfl⟩ := hown.bts.shape
    have HL : Hid ((cat (ws.take k)).length ≤ 4000) := Lib.hid (by rw [cat_len, List.length_take]; omega)
    by_cases hlt : k < n
    · have hlz : k < zs.length := by rw [← HN.out]; exact hlt
      have hlt' : k < ws.length := by rw [HZ.out.1]; exact hlz
      have hcell := hgr.cell (HC.out k hlz) (by simp)
      obtain ⟨hwr, hx⟩ := HZ.out.2 k hlz hlt'
      have HA := Lib.hid (cat_succ ws k hlt')
      have HW := Lib.hid (Word_any _ _ ws[k] wr hown.bts (by have := HL.out; omega) hx)
      have HG := Lib.hid hgr
      clear hown hgr hx
      generalize ws[k] = x at *
      generalize zs[k] = z at *
      go_wp2_with fail
      refine HW.out.mono ?_; rintro e w2 ⟨v2, rfl, h1, h2⟩
      obtain ⟨a2, n2, c2, rfl⟩ := h1.bts.shape
      rw [← HA.out] at h1
      have H1 := Lib.hid (h1.base HG.out.size); have H2 := Lib.hid h2
      clear h1 h2
      go_wp2_with fail
      go_roundw
      case rel => exact ⟨k + 1, by omega, by go_num, H1.out, World.grownBy.trans HG.out H2.out⟩
      case measure => simp [intOf]; omega
    · obtain rfl : k = n := by omega
      have hE : ws.take k = ws := by rw [HN.out, ← HZ.out.1]; exact List.take_length
      rw [hE] at hown HL
      have hst := hown.bts.str und22 und5 und9
      have HG := Lib.hid hgr
      clear hown hgr hlt hE
      go_wp2_with fail
      go_ret
      exact ⟨rfl, HG.out⟩

/-- Noughts, made. -/
theorem make_run (n : Nat) (hn : n ≤ 1000000) (w : World) : (Instr.makeSlice 57 (.int .i64 n) (.int .i64 n)).run Try.prog w = .ok (.slice (some ⟨w.heap.size, 0, none⟩) n n) (w.alloc (.cells ((List.replicate n (0 : UInt8)).map u8v).toArray 5)) := by
  obtain ⟨i, hi, hz0, hz1, hz2⟩ := info_parts inf5
  have h := run_makeSlice (P := Try.prog) w 57 5 i _ und22 hi hz0 .i64 .i64 n n (by omega) (Int.le_refl _) (by rw [hz1]; simp; omega) (by rw [hz2]; omega) (by omega)
  rw [hz1, Int.toNat_natCast, Nat.mul_one] at h
  have e : madeCells (Value.int .u8 0).cells n = ((List.replicate n (0 : UInt8)).map u8v).toArray := by
    apply Array.ext'
    rw [show (Value.int .u8 0).cells = #[Value.int .u8 0] from rfl, toList_madeCells_one, List.map_replicate]
    rfl
  rw [e] at h
  exact h

theorem made_bts (w : World) (bs : List UInt8) (t : TypeId) (h : bs.length ≤ maxLen) : Bts (w.alloc (.cells (bs.map u8v).toArray t)) (.slice (some ⟨w.heap.size, 0, none⟩) bs.length bs.length) bs := by
  refine .inr (.inl ⟨w.heap.size, 0, bs.length, rfl, Nat.le_refl _, h, fun i hi => ?_⟩)
  rw [Nat.zero_add]
  exact (Blk.made w t (bs.map u8v).toArray).cell (by simp [List.getElem?_eq_getElem hi, u8v])

set_option maxHeartbeats 400000 in
theorem many_any (n : Nat) (hn : n ≤ 1000000) (w : World) : Calls Try.prog 10 #[.int .i64 n] w (TX w (List.replicate n 0)) := by
  have hm := make_run n hn
  have hb := made_bts w (List.replicate n 0) 5 (by rw [List.length_replicate]; unfold maxLen; omega)
  rw [List.length_replicate] at hb
  have hst := hb.str und22 und5 und9
  have HG := Lib.hid (World.grownBy_alloc w (.cells ((List.replicate n (0 : UInt8)).map u8v).toArray 5) none)
  clear hb
  generalize ((List.replicate n (0 : UInt8)).map u8v).toArray = xs at *
  go_enter Try.func10, Try.ntmps10
  go_wp2_with fail
  go_ret
  exact ⟨rfl, HG.out⟩
end Go.Proofs.Ytkhlmfnfcdhceaa
