/- Arguments as words, the code: which field a letter names; the fields that a procedure asks for are handed on, in their order. -/
import Derived.Test.YtpklgcinijlmmaaArcA
import Derived.Test.YtpklgcinijlmmaaArgL
import Derived.Test.YtpklgcinijlmmaaArgM
import Derived.Carry
import Derived.Deep.DeepCutAuto
namespace Go.Proofs.Ytpklgcinijlmmaa
open Go.RowKit

/-- The field that a letter names, of arguments that lie at block R: as a value that is handed on. -/
def argV (R : Nat) (c : UInt8) : Value :=
  if c = 72 then .iface 105 (.pointer (some ⟨R, 0, none⟩)) else
  if c = 84 then .iface 105 (.pointer (some ⟨R, 3, none⟩)) else
  if c = 110 then .iface 102 (.agg #[.pointer (some ⟨R, 6, none⟩), .int .i64 255]) else
  if c = 111 then .iface 102 (.agg #[.pointer (some ⟨R, 7, none⟩), .int .i64 255]) else
  if c = 116 then .iface 102 (.agg #[.pointer (some ⟨R, 8, none⟩), .int .i64 2048]) else
  if c = 97 then .iface 97 (.pointer (some ⟨R, 9, none⟩)) else
  if c = 78 then .iface 97 (.pointer (some ⟨R, 10, none⟩)) else
  if c = 109 then .iface 97 (.pointer (some ⟨R, 11, none⟩)) else
  if c = 115 then .iface 97 (.pointer (some ⟨R, 12, none⟩)) else
  if c = 83 then .iface 97 (.pointer (some ⟨R, 13, none⟩)) else
  if c = 103 then .iface 97 (.pointer (some ⟨R, 14, none⟩)) else
  if c = 118 then .iface 98 (.pointer (some ⟨R, 15, none⟩)) else
  .nilIface

set_option maxRecDepth 20000 in
set_option maxHeartbeats 1000000 in
theorem arg_any (R : Nat) (c : UInt8) (hc : isL c) (w : World) : Calls Try.prog 65 #[.pointer (some ⟨R, 0, none⟩), .int .u8 (c.toNat : Int)] w (Says w (argV R c)) := by
  rcases hc with rfl | rfl | rfl | rfl | rfl | rfl | rfl | rfl | rfl | rfl | rfl | rfl
  · rw [show argV R 72 = .iface 105 (.pointer (some ⟨R, 0, none⟩)) from rfl, show (((72 : UInt8).toNat : Nat) : Int) = 72 from rfl]
    go_enter Try.func65, Try.ntmps65
    go_wp2_with fail
    go_ret
    exact ⟨rfl, rfl⟩
  · rw [show argV R 84 = .iface 105 (.pointer (some ⟨R, 3, none⟩)) from rfl, show (((84 : UInt8).toNat : Nat) : Int) = 84 from rfl]
    go_enter Try.func65, Try.ntmps65
    go_wp2_with fail
    go_ret
    exact ⟨rfl, rfl⟩
  · rw [show argV R 110 = .iface 102 (.agg #[.pointer (some ⟨R, 6, none⟩), .int .i64 255]) from rfl, show (((110 : UInt8).toNat : Nat) : Int) = 110 from rfl]
    go_enter Try.func65, Try.ntmps65
    go_wp2_with fail
    go_ret
    exact ⟨rfl, rfl⟩
  · rw [show argV R 111 = .iface 102 (.agg #[.pointer (some ⟨R, 7, none⟩), .int .i64 255]) from rfl, show (((111 : UInt8).toNat : Nat) : Int) = 111 from rfl]
    go_enter Try.func65, Try.ntmps65
    go_wp2_with fail
    go_ret
    exact ⟨rfl, rfl⟩
  · rw [show argV R 116 = .iface 102 (.agg #[.pointer (some ⟨R, 8, none⟩), .int .i64 2048]) from rfl, show (((116 : UInt8).toNat : Nat) : Int) = 116 from rfl]
    go_enter Try.func65, Try.ntmps65
    go_wp2_with fail
    go_ret
    exact ⟨rfl, rfl⟩
  · rw [show argV R 118 = .iface 98 (.pointer (some ⟨R, 15, none⟩)) from rfl, show (((118 : UInt8).toNat : Nat) : Int) = 118 from rfl]
    go_enter Try.func65, Try.ntmps65
    go_wp2_with fail
    go_ret
    exact ⟨rfl, rfl⟩
  · rw [show argV R 97 = .iface 97 (.pointer (some ⟨R, 9, none⟩)) from rfl, show (((97 : UInt8).toNat : Nat) : Int) = 97 from rfl]
    go_enter Try.func65, Try.ntmps65
    go_wp2_with fail
    go_ret
    exact ⟨rfl, rfl⟩
  · rw [show argV R 78 = .iface 97 (.pointer (some ⟨R, 10, none⟩)) from rfl, show (((78 : UInt8).toNat : Nat) : Int) = 78 from rfl]
    go_enter Try.func65, Try.ntmps65
    go_wp2_with fail
    go_ret
    exact ⟨rfl, rfl⟩
  · rw [show argV R 109 = .iface 97 (.pointer (some ⟨R, 11, none⟩)) from rfl, show (((109 : UInt8).toNat : Nat) : Int) = 109 from rfl]
    go_enter Try.func65, Try.ntmps65
    go_wp2_with fail
    go_ret
    exact ⟨rfl, rfl⟩
  · rw [show argV R 115 = .iface 97 (.pointer (some ⟨R, 12, none⟩)) from rfl, show (((115 : UInt8).toNat : Nat) : Int) = 115 from rfl]
    go_enter Try.func65, Try.ntmps65
    go_wp2_with fail
    go_ret
    exact ⟨rfl, rfl⟩
  · rw [show argV R 83 = .iface 97 (.pointer (some ⟨R, 13, none⟩)) from rfl, show (((83 : UInt8).toNat : Nat) : Int) = 83 from rfl]
    go_enter Try.func65, Try.ntmps65
    go_wp2_with fail
    go_ret
    exact ⟨rfl, rfl⟩
  · rw [show argV R 103 = .iface 97 (.pointer (some ⟨R, 14, none⟩)) from rfl, show (((103 : UInt8).toNat : Nat) : Int) = 103 from rfl]
    go_enter Try.func65, Try.ntmps65
    go_wp2_with fail
    go_ret
    exact ⟨rfl, rfl⟩

def asksT : List (List UInt8) := [[], [72], [72, 109, 115, 103], [72, 110], [72], [72, 97, 78], [72, 97, 83, 116], [72, 110, 109, 103], [72, 110, 109], [72, 110, 116], [72, 110], [72, 110], [72, 110, 84, 111], [72, 84, 110], [72, 97, 78, 118], [72], [72], [72, 110], [72, 110]]
theorem rowAt_asks (k : Int) : rowAt asksT k = if 0 ≤ k ∧ k < 19 then asks k.toNat else [] := by
  unfold rowAt
  have hl : (asksT.length : Int) = 19 := rfl
  rw [hl]
  by_cases h : 0 ≤ k ∧ k < 19
  · rw [if_pos h, if_pos h]
    obtain ⟨q, rfl⟩ := Int.eq_ofNat_of_zero_le h.1
    rw [Int.toNat_natCast]
    rcases (show q = 0 ∨ q = 1 ∨ q = 2 ∨ q = 3 ∨ q = 4 ∨ q = 5 ∨ q = 6 ∨ q = 7 ∨ q = 8 ∨ q = 9 ∨ q = 10 ∨ q = 11 ∨ q = 12 ∨ q = 13 ∨ q = 14 ∨ q = 15 ∨ q = 16 ∨ q = 17 ∨ q = 18 by omega) with rfl | rfl | rfl | rfl | rfl | rfl | rfl | rfl | rfl | rfl | rfl | rfl | rfl | rfl | rfl | rfl | rfl | rfl | rfl <;> rfl
  · rw [if_neg h, if_neg h]
theorem rowAt_isL (k : Int) : ∀ c ∈ rowAt asksT k, isL c := by
  rw [rowAt_asks]
  split
  · exact asks_isL _
  · intro c hc; exact absurd hc (by simp)
theorem rowAt_len (k : Int) : (rowAt asksT k).length ≤ 100 := by
  rw [rowAt_asks]
  split
  · exact asks_len _
  · simp

theorem undLM : Try.prog.underlying 95 = some (.map 3 92) := by kernel_rfl
theorem undLet : Try.prog.underlying 92 = some (.slice 94) := by kernel_rfl
theorem zeroLet : ∀ w, (zeroValue 92).run Try.prog w = .ok (.slice none 0 0) w := fun w => by kernel_rfl

set_option maxRecDepth 20000 in
set_option maxHeartbeats 4000000 in
/-- The closure of Write is called by each field, in their order. I: what holds behind these letters; L: a block that the closure leaves. -/
theorem asks_Write (k : Int) (R B : Nat) (I : Nat → List UInt8 → World → Prop) (w : World) (h0 : ∀ L, w.heap.size ≤ L → I L [] w) (hnew : ∀ L p w w', I L p w → w.grownBy w' none → I L p w')
    (hstep : ∀ L p c w, isL c → p.length < 100 → I L p w → L < w.heap.size → Calls Try.prog 28 #[argV R c, .pointer (some ⟨B, 0, none⟩)] w fun e w' => e = .returned (.tuple #[]) ∧ I L (p ++ [c]) w' ∧ w'.heap[L]? = w.heap[L]?) :
    Calls Try.prog 27 #[.int .i64 k, .pointer (some ⟨R, 0, none⟩), .func (.func 28) #[] #[.pointer (some ⟨B, 0, none⟩)]] w fun e w' => e = .returned (.bool (decide (0 ≤ k ∧ k < 19))) ∧ ∃ L, I L (rowAt asksT k) w' := by
  have H0 := Lib.hid h0
  have HN := Lib.hid hnew
  have HSt := Lib.hid hstep
  have HT := Lib.hid (Tab.made w)
  have HIS := Lib.hid (rowAt_isL k)
  have hl100 := rowAt_len k
  obtain ⟨is, hi⟩ : ∃ is, decide (0 ≤ k ∧ k < 19) = is := ⟨_, rfl⟩
  obtain ⟨l, hl⟩ : ∃ l, rowAt asksT k = l := ⟨_, rfl⟩
  rw [hi, hl]
  rw [hl] at HIS hl100
  have HI := Lib.hid hi
  have HL := Lib.hid hl
  have HLN : Hid (l.length ≤ 100) := Lib.hid hl100
  clear h0 hnew hstep hi hl hl100
  have hmm := fun w => run_makeMap (P := Try.prog) 95 w
  go_enter Try.func27, Try.ntmps27
  go_wp2_with (first
    | (refine wpList_letters rfl 94 _ _ rfl (fun a w => by kernel_rfl) HT.out (by decide) ?_; rintro v1 w1 h1 h2 h3; clear HT; have HT := Lib.hid h1; have HB := Lib.hid h2; have HO := Lib.hid h3; clear h1 h2 h3; (try go_simp))
    | (refine wpList_insert_tab rfl _ _ _ rfl undLM und3 w.heap.size _ _ _ rfl rfl rfl HT.out HB.out HO.out ?_; rintro w2 h1; clear HT HB HO; have HT := Lib.hid h1; clear h1; (try go_simp))
    | (refine wpList_lookup_tab rfl _ _ rfl undLM und3 zeroLet w.heap.size asksT k is l rfl rfl HT.out HI.out HL.out ?_; rintro v1 h1 h2; have HG := Lib.hid HT.out.1; clear HT; obtain ⟨a1, c1, rfl, h3, h4⟩ := h1.form; have HB := Lib.hid h1; have HO := Lib.hid h2; clear h1 h2 h3 h4; (try go_simp)))
  have hl100 : (l.length : Int) ≤ 100 := by have := HLN.out; omega
  obtain ⟨L, hL⟩ : ∃ L, w.heap.size ≤ L ∧ ∀ k, (Value.slice a1 l.length c1).ownBlock = some k → k = L := by
    cases a1 with
    | none => exact ⟨w.heap.size, Nat.le_refl _, fun k hk => by cases hk⟩
    | some a => exact ⟨a.block, HO.out _ rfl, fun k hk => by cases hk; rfl⟩
  have HLL := Lib.hid hL
  clear hL
  go_loopw [39] (fun i w' => ∃ j : Nat, j ≤ l.length ∧ i = .int .i64 j ∧ I L (l.take j) w' ∧ Bts w' (.slice a1 l.length c1) l) (fun i w' => l.length - (intOf i).toNat)
  case atStart => exact ⟨0, Nat.zero_le _, rfl, HN.out L [] w _ (H0.out L HLL.out.1) HG.out, HB.out⟩
  case round =>
    obtain ⟨j, hj, rfl, hI, hB⟩ := hrel
    have HII := Lib.hid hI
    have HBB := Lib.hid hB
    clear hI hB
    by_cases hlt : j < l.length
    · obtain ⟨g, o, c, hv, hc⟩ := HBB.out.cell (by omega)
      cases hv
      have hcell := hc j hlt
      have hgL : g = L := HLL.out.2 g rfl
      have HLT := Lib.hid (show L < _ from hgL ▸ World.block_lt_of_cell? _ _ hcell)
      clear hgL
      have hx := Lib.hid (HIS.out l[j] (List.getElem_mem hlt))
      have htk := Lib.hid (List.take_succ_eq_append_getElem hlt)
      generalize l[j] = x at *
      clear hc
      go_wp2_with fail
      refine (arg_any R x hx.out _).mono ?_; rintro e w2 ⟨rfl, rfl⟩
      go_wp2_with fail
      refine (HSt.out L (l.take j) x _ hx.out (by have := HLN.out; rw [List.length_take]; omega) HII.out HLT.out).mono ?_; rintro e w2 ⟨rfl, h1, h2⟩
      have H1 := Lib.hid h1
      have H2 := Lib.hid h2
      clear h1 h2
      go_wp2_with fail
      go_roundw
      case rel => exact ⟨j + 1, by omega, by go_num, by rw [htk.out]; exact H1.out, HBB.out.keepAt (fun k hk => by rw [HLL.out.2 k hk]; exact H2.out)⟩
      case measure => simp [intOf]; omega
    · obtain rfl : j = l.length := by omega
      go_wp2_with fail
      go_ret
      have := HII.out
      rw [List.take_length] at this
      exact ⟨rfl, L, this⟩

set_option maxRecDepth 20000 in
set_option maxHeartbeats 4000000 in
/-- The closure of Read is called by each field, in their order. I: what holds behind these letters; L: a block that the closure leaves. -/
theorem asks_Read (k : Int) (R B C : Nat) (I : Nat → List UInt8 → World → Prop) (w : World) (h0 : ∀ L, w.heap.size ≤ L → I L [] w) (hnew : ∀ L p w w', I L p w → w.grownBy w' none → I L p w')
    (hstep : ∀ L p c w, isL c → p.length < 100 → I L p w → L < w.heap.size → Calls Try.prog 31 #[argV R c, .pointer (some ⟨B, 0, none⟩), .pointer (some ⟨C, 0, none⟩)] w fun e w' => e = .returned (.tuple #[]) ∧ I L (p ++ [c]) w' ∧ w'.heap[L]? = w.heap[L]?) :
    Calls Try.prog 27 #[.int .i64 k, .pointer (some ⟨R, 0, none⟩), .func (.func 31) #[] #[.pointer (some ⟨B, 0, none⟩), .pointer (some ⟨C, 0, none⟩)]] w fun e w' => e = .returned (.bool (decide (0 ≤ k ∧ k < 19))) ∧ ∃ L, I L (rowAt asksT k) w' := by
  have H0 := Lib.hid h0
  have HN := Lib.hid hnew
  have HSt := Lib.hid hstep
  have HT := Lib.hid (Tab.made w)
  have HIS := Lib.hid (rowAt_isL k)
  have hl100 := rowAt_len k
  obtain ⟨is, hi⟩ : ∃ is, decide (0 ≤ k ∧ k < 19) = is := ⟨_, rfl⟩
  obtain ⟨l, hl⟩ : ∃ l, rowAt asksT k = l := ⟨_, rfl⟩
  rw [hi, hl]
  rw [hl] at HIS hl100
  have HI := Lib.hid hi
  have HL := Lib.hid hl
  have HLN : Hid (l.length ≤ 100) := Lib.hid hl100
  clear h0 hnew hstep hi hl hl100
  have hmm := fun w => run_makeMap (P := Try.prog) 95 w
  go_enter Try.func27, Try.ntmps27
  go_wp2_with (first
    | (refine wpList_letters rfl 94 _ _ rfl (fun a w => by kernel_rfl) HT.out (by decide) ?_; rintro v1 w1 h1 h2 h3; clear HT; have HT := Lib.hid h1; have HB := Lib.hid h2; have HO := Lib.hid h3; clear h1 h2 h3; (try go_simp))
    | (refine wpList_insert_tab rfl _ _ _ rfl undLM und3 w.heap.size _ _ _ rfl rfl rfl HT.out HB.out HO.out ?_; rintro w2 h1; clear HT HB HO; have HT := Lib.hid h1; clear h1; (try go_simp))
    | (refine wpList_lookup_tab rfl _ _ rfl undLM und3 zeroLet w.heap.size asksT k is l rfl rfl HT.out HI.out HL.out ?_; rintro v1 h1 h2; have HG := Lib.hid HT.out.1; clear HT; obtain ⟨a1, c1, rfl, h3, h4⟩ := h1.form; have HB := Lib.hid h1; have HO := Lib.hid h2; clear h1 h2 h3 h4; (try go_simp)))
  have hl100 : (l.length : Int) ≤ 100 := by have := HLN.out; omega
  obtain ⟨L, hL⟩ : ∃ L, w.heap.size ≤ L ∧ ∀ k, (Value.slice a1 l.length c1).ownBlock = some k → k = L := by
    cases a1 with
    | none => exact ⟨w.heap.size, Nat.le_refl _, fun k hk => by cases hk⟩
    | some a => exact ⟨a.block, HO.out _ rfl, fun k hk => by cases hk; rfl⟩
  have HLL := Lib.hid hL
  clear hL
  go_loopw [39] (fun i w' => ∃ j : Nat, j ≤ l.length ∧ i = .int .i64 j ∧ I L (l.take j) w' ∧ Bts w' (.slice a1 l.length c1) l) (fun i w' => l.length - (intOf i).toNat)
  case atStart => exact ⟨0, Nat.zero_le _, rfl, HN.out L [] w _ (H0.out L HLL.out.1) HG.out, HB.out⟩
  case round =>
    obtain ⟨j, hj, rfl, hI, hB⟩ := hrel
    have HII := Lib.hid hI
    have HBB := Lib.hid hB
    clear hI hB
    by_cases hlt : j < l.length
    · obtain ⟨g, o, c, hv, hc⟩ := HBB.out.cell (by omega)
      cases hv
      have hcell := hc j hlt
      have hgL : g = L := HLL.out.2 g rfl
      have HLT := Lib.hid (show L < _ from hgL ▸ World.block_lt_of_cell? _ _ hcell)
      clear hgL
      have hx := Lib.hid (HIS.out l[j] (List.getElem_mem hlt))
      have htk := Lib.hid (List.take_succ_eq_append_getElem hlt)
      generalize l[j] = x at *
      clear hc
      go_wp2_with fail
      refine (arg_any R x hx.out _).mono ?_; rintro e w2 ⟨rfl, rfl⟩
      go_wp2_with fail
      refine (HSt.out L (l.take j) x _ hx.out (by have := HLN.out; rw [List.length_take]; omega) HII.out HLT.out).mono ?_; rintro e w2 ⟨rfl, h1, h2⟩
      have H1 := Lib.hid h1
      have H2 := Lib.hid h2
      clear h1 h2
      go_wp2_with fail
      go_roundw
      case rel => exact ⟨j + 1, by omega, by go_num, by rw [htk.out]; exact H1.out, HBB.out.keepAt (fun k hk => by rw [HLL.out.2 k hk]; exact H2.out)⟩
      case measure => simp [intOf]; omega
    · obtain rfl : j = l.length := by omega
      go_wp2_with fail
      go_ret
      have := HII.out
      rw [List.take_length] at this
      exact ⟨rfl, L, this⟩

end Go.Proofs.Ytpklgcinijlmmaa
