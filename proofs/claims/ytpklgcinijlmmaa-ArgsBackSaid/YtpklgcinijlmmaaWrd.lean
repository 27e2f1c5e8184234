/- bytes.Clone, slices.Concat, xdr.Word. -/
import Derived.Test.YtpklgcinijlmmaaOwn
import Derived.Lib.ConvBytes
import Derived.Deep.RegionHeld3
namespace Go.Proofs.Ytpklgcinijlmmaa
open Go.RowKit

set_option maxRecDepth 20000 in
set_option maxHeartbeats 400000 in
theorem clone_any (v : Value) (bs : List UInt8) (w : World) (hv : Bts w v bs) (hl : bs.length ≤ 140737488355328) :
    Calls Try.prog 72 #[v] w (New w bs) := by
  have he := Lib.run_eql_slice_nil (P := Try.prog)
  have H := hv
  by_cases hnil : v = .slice none 0 0
  · subst hnil
    obtain rfl : bs = [] := by
      obtain ⟨_, _, h, _⟩ := H.form
      cases bs with
      | nil => rfl
      | cons x l => simp at h
    clear H hv
    go_enter Try.func72, Try.ntmps72
    go_wp2_with fail
    go_ret
    exact ⟨_, rfl, Own.nil _ _, World.grownBy.refl _ _⟩
  · obtain ⟨ad, n0, c0, rfl⟩ : ∃ ad n c, v = .slice (some ad) n c := by
      rcases hv with ⟨rfl, _⟩ | ⟨b, o, c, rfl, _⟩ | ⟨a, rfl, _⟩
      · exact absurd rfl hnil
      · exact ⟨_, _, _, rfl⟩
      · exact ⟨_, _, _, rfl⟩
    have hg : w.grownBy (w.alloc (.cells #[] 5)) none := World.grownBy_alloc _ _ _
    have HO : Hid (Own (w.alloc (.cells #[] 5)) w.heap.size (.slice (some ⟨w.heap.size, 0, none⟩) 0 0) []) := Lib.hid (World.ownsRow_made w #[] 0 (Nat.le_refl _) (Nat.zero_le _) (by simp))
    have HB := Lib.hid (H.new hg)
    have HL : Hid (([] : List UInt8).length + bs.length ≤ 140737488355328) := Lib.hid (by simpa using hl)
    clear H hv hnil hl hg
    go_enter Try.func72, Try.ntmps72
    go_wp2_with (at_builtin; refine wpList_append_bts rfl _ _ rfl _ _ _ _ _ rfl rfl HO.out HB.out HL.out (by simp) ?_; rintro v5 w5 ⟨h6, h7, h8⟩; obtain ⟨a5, n5, c5, rfl⟩ := h6.bts.shape; have H6 := Lib.hid h6; have H7 := Lib.hid h7; clear h6 h7 h8)
    go_ret
    exact ⟨_, rfl, H6.out, grown_own (World.grownBy_alloc _ _ _) H7.out (fun m hm => by cases hm; exact Nat.le_refl _)⟩

set_option maxRecDepth 20000 in
set_option maxHeartbeats 400000 in
theorem word_b (n : Nat) (w : World) (hn : n < 4294967296) :
    Calls Try.prog 41 #[.int .u32 (n : Int)] w fun e w' => e = .returned (.agg ((word4 n).map u8v).toArray) ∧ w.grownBy w' none := by
  have h2 : (n : Int) < 4294967296 := by omega
  have HE : Hid ((.agg #[Value.int IntKind.u8 (↑n / 16777216), Value.int IntKind.u8 (↑n / 65536 % 256), Value.int IntKind.u8 (↑n / 256 % 256), Value.int IntKind.u8 (↑n % 256)] : Value) = .agg ((word4 n).map u8v).toArray) := Lib.hid (by
    simp only [word4, List.map_cons, List.map_nil, u8v, UInt8.toNat_ofNat']
    rw [show ((n / 16777216 % 2 ^ 8 : Nat) : Int) = (n : Int) / 16777216 by omega, show ((n / 65536 % 2 ^ 8 : Nat) : Int) = (n : Int) / 65536 % 256 by omega, show ((n / 256 % 2 ^ 8 : Nat) : Int) = (n : Int) / 256 % 256 by omega, show ((n % 2 ^ 8 : Nat) : Int) = (n : Int) % 256 by omega])
  go_enter Try.func41, Try.ntmps41
  go_wp2_with fail
  exact bodyPost_ret (v := .agg #[Value.int IntKind.u8 (↑n / 16777216), Value.int IntKind.u8 (↑n / 65536 % 256), Value.int IntKind.u8 (↑n / 256 % 256), Value.int IntKind.u8 (↑n % 256)]) (by simp [results, Try.results41, go_sem]) rfl ⟨by rw [HE.out], World.grownBy_alloc _ _ _⟩

/-- A whole array of four bytes, as a slice. -/
theorem bts_four {w : World} {g : Nat} {t : TypeId} (y0 y1 y2 y3 : UInt8) (h : w.heap[g]? = some (.cells #[.int .u8 y0.toNat, .int .u8 y1.toNat, .int .u8 y2.toNat, .int .u8 y3.toNat] t (0, 0))) :
    Bts w (.slice (some ⟨g, 0, none⟩) 4 4) [y0, y1, y2, y3] := by
  refine .inr (.inl ⟨g, 0, 4, rfl, by simp, by unfold maxLen; omega, fun i hi => ?_⟩)
  match i, hi with
  | 0, _ => simp [World.cell?, h]
  | 1, _ => simp [World.cell?, h]
  | 2, _ => simp [World.cell?, h]
  | 3, _ => simp [World.cell?, h]

theorem New.from {w wx w3 : World} {out bs : List UInt8} {e : Ending} (h : New wx out e w3) (hg : w.grownBy wx none) (he : out = bs) : New w bs e w3 := by
  subst he
  obtain ⟨v, rfl, h3, h4⟩ := h
  exact ⟨v, rfl, h3.base hg.size, World.grownBy.trans hg h4⟩

theorem drewN_grown (w : World) (n : Nat) : w.grownBy (w.drewN n) none := ⟨rfl, rfl, rfl, Nat.le_refl _, fun _ _ _ => rfl⟩
theorem drew_grown (w : World) (row : Option Nat) : w.grownBy w.drew row := ⟨rfl, rfl, rfl, Nat.le_refl _, fun _ _ _ => rfl⟩

/-- Two texts of bytes, put together. -/
theorem concat2 (B c : Nat) (v1 v2 : Value) (b1 b2 : List UInt8) (t : TypeId) (w wx : World) (hx : w.grownBy wx none) (hB : wx.heap[B]? = some (.cells #[v1, v2] t (0, 0)))
    (h1 : Bts wx v1 b1) (h2 : Bts wx v2 b2) (hl : b1.length + b2.length ≤ 140737488355328) :
    Calls Try.prog 42 #[.slice (some ⟨B, 0, none⟩) 2 c] wx (New w (b1 ++ b2)) := by
  refine (concat_any B c [(v1, b1), (v2, b2)] wx ?_ ?_ (by simp [sumLen]; omega) (by simp)).mono fun _ _ h => h.from hx (by simp [allOf])
  · intro i hi
    match i, hi with
    | 0, _ => simp [World.cell?, hB]
    | 1, _ => simp [World.cell?, hB]
  · intro i hi
    match i, hi with
    | 0, _ => exact h1
    | 1, _ => exact h2

/-- Three texts of bytes, put together. -/
theorem concat3 (B c : Nat) (v1 v2 v3 : Value) (b1 b2 b3 : List UInt8) (t : TypeId) (w wx : World) (hx : w.grownBy wx none) (hB : wx.heap[B]? = some (.cells #[v1, v2, v3] t (0, 0)))
    (h1 : Bts wx v1 b1) (h2 : Bts wx v2 b2) (h3 : Bts wx v3 b3) (hl : b1.length + b2.length + b3.length ≤ 140737488355328) :
    Calls Try.prog 42 #[.slice (some ⟨B, 0, none⟩) 3 c] wx (New w (b1 ++ (b2 ++ b3))) := by
  refine (concat_any B c [(v1, b1), (v2, b2), (v3, b3)] wx ?_ ?_ (by simp [sumLen]; omega) (by simp)).mono fun _ _ h => h.from hx (by simp [allOf])
  · intro i hi
    match i, hi with
    | 0, _ => simp [World.cell?, hB]
    | 1, _ => simp [World.cell?, hB]
    | 2, _ => simp [World.cell?, hB]
  · intro i hi
    match i, hi with
    | 0, _ => exact h1
    | 1, _ => exact h2
    | 2, _ => exact h3

set_option maxRecDepth 20000 in
set_option maxHeartbeats 400000 in
theorem Word_any (v : Value) (bs : List UInt8) (n : Nat) (w : World) (hv : Bts w v bs) (hl : bs.length ≤ 100000000000) (hn : n < 4294967296) :
    Calls Try.prog 19 #[v, .int .u32 (n : Int)] w (New w (bs ++ word4 n)) := by
  have HW := Lib.hid (fun w => word_b n w hn)
  have HV := Lib.hid hv
  obtain ⟨a, m, c, rfl⟩ := hv.shape
  obtain ⟨y0, y1, y2, y3, hy⟩ : ∃ y0 y1 y2 y3, word4 n = [y0, y1, y2, y3] := ⟨_, _, _, _, rfl⟩
  rw [hy] at HW ⊢
  have HLL := Lib.hid hl
  clear hv hn hl hy
  go_enter Try.func19, Try.ntmps19
  go_wp2_with fail
  refine (HW.out _).mono ?_; rintro e w2 ⟨rfl, h1⟩
  have H1 := Lib.hid h1; clear h1
  simp only [List.map_cons, List.map_nil, u8v]
  go_wp2_with fail
  have g1 := World.grownBy_alloc w2 (.cells #[.int .u8 y0.toNat, .int .u8 y1.toNat, .int .u8 y2.toNat, .int .u8 y3.toNat] 75) none
  have hY := bts_four (t := 75) y0 y1 y2 y3 (heap_alloc_new w2 _)
  have hs : w2.heap.size + 1 = (w2.alloc (.cells #[.int .u8 y0.toNat, .int .u8 y1.toNat, .int .u8 y2.toNat, .int .u8 y3.toNat] 75)).heap.size := by simp
  rw [hs]
  clear hs
  have hg := World.grownBy.trans H1.out g1
  clear g1
  generalize w2.alloc (.cells #[.int .u8 y0.toNat, .int .u8 y1.toNat, .int .u8 y2.toNat, .int .u8 y3.toNat] 75) = w4 at *
  have hV := HV.out.new hg
  have g2 := fun o => World.grownBy_alloc w4 o none
  refine (concat2 _ _ _ _ bs [y0, y1, y2, y3] _ w _ (World.grownBy.trans hg (g2 _)) (heap_alloc_new w4 _) (hV.new (g2 _)) (hY.new (g2 _)) (by have := HLL.out; simp; omega)).mono ?_
  rintro e w3 ⟨v3, rfl, h3, h4⟩
  obtain ⟨a3, n3, c3, rfl⟩ := h3.bts.shape
  have H3 := Lib.hid h3; have H4 := Lib.hid h4
  clear h3 h4 g2 hV hY hg
  go_wp2_with fail
  go_ret
  exact ⟨_, rfl, H3.out, H4.out⟩

end Go.Proofs.Ytpklgcinijlmmaa
