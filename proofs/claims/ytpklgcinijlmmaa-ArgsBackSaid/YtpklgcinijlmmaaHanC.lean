/- handle.Encode. -/
import Derived.Test.YtpklgcinijlmmaaHanB
import Derived.Deep.DeepCutAuto
namespace Go.Proofs.Ytpklgcinijlmmaa
open Go.RowKit

set_option maxRecDepth 20000 in
set_option maxHeartbeats 1000000 in
theorem enc_bad (h : Hn) (w : World) (hm : ¬ hMay h) : Calls Try.prog 37 #[hnV h] w (TE w ([], 4)) := by
  have HM := Lib.hid (fun w => may_any h w)
  rw [decide_eq_false hm] at HM
  clear hm
  unfold hnV at *
  go_enter Try.func37, Try.ntmps37
  go_wp2_with fail
  refine (HM.out _).mono ?_; rintro e w' ⟨rfl, h2⟩; have H2 := Lib.hid h2; clear h2
  go_wp2_with fail
  go_ret2
  exact ⟨rfl, World.grownBy.trans (World.grownBy_alloc _ _ _) H2.out⟩

/-- A number of four bytes put between others. -/
theorem putK_word (p q : List UInt8) (x0 x1 x2 x3 : UInt8) (n : Nat) : putK (p ++ x0 :: x1 :: x2 :: x3 :: q) p.length 4 n 4 = p ++ (word4 n ++ q) := by
  simp [putK, word4]

/-- The bytes behind k of four numbers. -/
def stage (ns : Nat → Nat) : Nat → List UInt8
  | 0 => List.replicate 24 0
  | k + 1 => putK (stage ns k) (4 * k) 4 (ns k) 4
theorem stage_len (ns : Nat → Nat) (k : Nat) : (stage ns k).length = 24 := by
  induction k with
  | zero => rfl
  | succ k ih => unfold stage; rw [putK_len, ih]

theorem stage_four (ns : Nat → Nat) : stage ns 4 = word4 (ns 0) ++ (word4 (ns 1) ++ (word4 (ns 2) ++ (word4 (ns 3) ++ List.replicate 8 0))) := by
  have e0 : stage ns 0 = [] ++ 0 :: 0 :: 0 :: 0 :: List.replicate 20 0 := rfl
  have e1 : stage ns 1 = [] ++ (word4 (ns 0) ++ List.replicate 20 0) := by
    show putK (stage ns 0) 0 4 (ns 0) 4 = _
    rw [e0]; exact putK_word [] _ _ _ _ _ _
  have e2 : stage ns 2 = word4 (ns 0) ++ (word4 (ns 1) ++ List.replicate 16 0) := by
    show putK (stage ns 1) 4 4 (ns 1) 4 = _
    rw [e1]; exact putK_word (word4 (ns 0)) _ _ _ _ _ _
  have e3 : stage ns 3 = (word4 (ns 0) ++ word4 (ns 1)) ++ (word4 (ns 2) ++ List.replicate 12 0) := by
    show putK (stage ns 2) 8 4 (ns 2) 4 = _
    rw [e2, ← List.append_assoc]; exact putK_word (word4 (ns 0) ++ word4 (ns 1)) _ _ _ _ _ _
  show putK (stage ns 3) 12 4 (ns 3) 4 = _
  rw [e3, ← List.append_assoc]
  rw [show word4 (ns 0) ++ (word4 (ns 1) ++ (word4 (ns 2) ++ (word4 (ns 3) ++ List.replicate 8 0))) = (word4 (ns 0) ++ word4 (ns 1) ++ word4 (ns 2)) ++ (word4 (ns 3) ++ List.replicate 8 0) by simp only [List.append_assoc]]
  exact putK_word (word4 (ns 0) ++ word4 (ns 1) ++ word4 (ns 2)) _ _ _ _ _ _

theorem putK_sum (p : List UInt8) (u : Nat) : putK (p ++ List.replicate 8 0) p.length 8 u 8 = p ++ sum8 u := by
  have e : ∀ a b : Nat, a % 256 = b % 256 → UInt8.ofNat a = UInt8.ofNat b := fun a b h => UInt8.toNat_inj.1 (by simpa using h)
  simp [putK, sum8, word4, List.replicate]
  refine ⟨e _ _ ?_, e _ _ ?_, e _ _ ?_, e _ _ ?_, e _ _ ?_, e _ _ ?_, e _ _ ?_⟩ <;> omega

theorem put_stage (A : Nat) (ns : Nat → Nat) (k x : Nat) (w : World) (hx : ns k = x) (hk : k < 4) (hx2 : x < 4294967296) (hb : Blk w A 122 ((stage ns k).map u8v).toArray) :
    Calls Try.prog 86 #[.pointer (some ⟨A, 0, none⟩), .int .i64 ((4 * k : Nat) : Int), .int .i64 4, .int .u64 (x : Int)] w fun e w' => e = .returned (.tuple #[]) ∧ w.grownBy w' (some A) ∧ Blk w' A 122 ((stage ns (k + 1)).map u8v).toArray := by
  subst hx
  exact put_any A (4 * k) 4 (ns k) (stage ns k) w hb (stage_len ns k) (by omega) (by omega) (by omega)

theorem blk_cells {w : World} {r : Nat} {t : TypeId} {l q : List UInt8} (h : Blk w r t ((l ++ q).map u8v).toArray) : BCells w r 0 l := fun i hi => by
  rw [Nat.zero_add]
  exact h.cell (by rw [List.getElem?_toArray, List.getElem?_map, List.getElem?_append_left hi, List.getElem?_eq_getElem hi]; rfl)

set_option maxRecDepth 10000 in
set_option maxHeartbeats 4000000 in
theorem enc_ok (s i g : Nat) (w : World) (hm : hMay ⟨s, i, g⟩) : Calls Try.prog 37 #[hnV ⟨s, i, g⟩] w (TE w (hB fnv ⟨s, i, g⟩, 0)) := by
  have HM := Lib.hid (fun w => may_any ⟨s, i, g⟩ w)
  rw [decide_eq_true hm] at HM
  have bs : (s : Int) < 4294967296 := by have := hm.1; unfold isC at this; dsimp at this; omega
  have bi : (i : Int) < 4294967296 := by have := hm.2.1; unfold isC at this; dsimp at this; omega
  have bg : (g : Int) < 4294967296 := by have := hm.2.2.2; unfold isC at this; dsimp at this; omega
  obtain ⟨ns, hns⟩ : ∃ ns : Nat → Nat, ns 0 = 1 ∧ ns 1 = s ∧ ns 2 = i ∧ ns 3 = g := ⟨fun k => if k = 0 then 1 else if k = 1 then s else if k = 2 then i else g, rfl, rfl, rfl, rfl⟩
  have NS := Lib.hid hns
  have HBD := Lib.hid (And.intro bs (And.intro bi bg))
  clear hm bs bi bg hns
  unfold hnV at *
  go_enter Try.func37, Try.ntmps37
  go_wp2_with fail
  refine (HM.out _).mono ?_; rintro e w1 ⟨rfl, h2⟩
  have hblk := (Blk.made w 24 #[.int .i64 s, .int .i64 i, .int .i64 g]).new h2
  have HB := Lib.hid hblk
  have G := Lib.hid (World.grownBy.trans (World.grownBy_alloc w (.cells #[.int .i64 s, .int .i64 i, .int .i64 g] 24) none) h2)
  clear hblk h2 HM
  generalize w.heap.size = K at *
  go_upto_region 4 with fail
  have hT : Blk (w1.alloc (.cells #[.int .u8 0, .int .u8 0, .int .u8 0, .int .u8 0, .int .u8 0, .int .u8 0, .int .u8 0, .int .u8 0, .int .u8 0, .int .u8 0, .int .u8 0, .int .u8 0, .int .u8 0, .int .u8 0, .int .u8 0, .int .u8 0, .int .u8 0, .int .u8 0, .int .u8 0, .int .u8 0, .int .u8 0, .int .u8 0, .int .u8 0, .int .u8 0] 122)) w1.heap.size 122 ((stage ns 0).map u8v).toArray := Blk.made w1 122 #[.int .u8 0, .int .u8 0, .int .u8 0, .int .u8 0, .int .u8 0, .int .u8 0, .int .u8 0, .int .u8 0, .int .u8 0, .int .u8 0, .int .u8 0, .int .u8 0, .int .u8 0, .int .u8 0, .int .u8 0, .int .u8 0, .int .u8 0, .int .u8 0, .int .u8 0, .int .u8 0, .int .u8 0, .int .u8 0, .int .u8 0, .int .u8 0]
  have g2 := World.grownBy_alloc w1 (.cells #[.int .u8 0, .int .u8 0, .int .u8 0, .int .u8 0, .int .u8 0, .int .u8 0, .int .u8 0, .int .u8 0, .int .u8 0, .int .u8 0, .int .u8 0, .int .u8 0, .int .u8 0, .int .u8 0, .int .u8 0, .int .u8 0, .int .u8 0, .int .u8 0, .int .u8 0, .int .u8 0, .int .u8 0, .int .u8 0, .int .u8 0, .int .u8 0] 122) none
  have hA := G.out.size
  have hH := HB.out.new g2
  have G2 := Lib.hid (World.grownBy.trans G.out g2)
  clear G HB g2
  generalize w1.alloc (.cells #[.int .u8 0, .int .u8 0, .int .u8 0, .int .u8 0, .int .u8 0, .int .u8 0, .int .u8 0, .int .u8 0, .int .u8 0, .int .u8 0, .int .u8 0, .int .u8 0, .int .u8 0, .int .u8 0, .int .u8 0, .int .u8 0, .int .u8 0, .int .u8 0, .int .u8 0, .int .u8 0, .int .u8 0, .int .u8 0, .int .u8 0, .int .u8 0] 122) = w2 at *
  generalize w1.heap.size = A at *
  have HA := Lib.hid hA
  have HT := Lib.hid hT
  have c0 := hH.cell (i := 0) (x := .int .i64 s) rfl
  have c1 := hH.cell (i := 1) (x := .int .i64 i) rfl
  have c2 := hH.cell (i := 2) (x := .int .i64 g) rfl
  clear hT hA hH
  go_wp2_with fail
  clear c0 c1 c2
  obtain ⟨l, hl⟩ : ∃ l, h16 ⟨s, i, g⟩ = l := ⟨_, rfl⟩
  have h4 : stage ns 4 = l ++ List.replicate 8 0 := by
    rw [stage_four, NS.out.1, NS.out.2.1, NS.out.2.2.1, NS.out.2.2.2, ← hl]
    unfold h16
    simp only [List.append_assoc]
    rfl
  have hT : l ++ sum8 (fnv l) = hB fnv ⟨s, i, g⟩ := by rw [← hl]; rfl
  have hlen : l.length = 16 := by rw [← hl]; rfl
  have BD : Hid (s < 4294967296 ∧ i < 4294967296 ∧ g < 4294967296) := Lib.hid (by have := HBD.out; omega)
  have ws : IntKind.u64.wrap (s : Int) = s := by rw [IntKind.wrap_u64]; have := BD.out; omega
  have wi : IntKind.u64.wrap (i : Int) = i := by rw [IntKind.wrap_u64]; have := BD.out; omega
  have wg : IntKind.u64.wrap (g : Int) = g := by rw [IntKind.wrap_u64]; have := BD.out; omega
  have HE := Lib.hid hT
  have HL := Lib.hid (And.intro h4 hlen)
  have HU := Lib.hid (fnv_lt l)
  clear h4 hT hlen hl HBD
  go_loopw [17] (fun i w' => ∃ k : Nat, k ≤ 4 ∧ i = .int .i64 k ∧ w.grownBy w' none ∧ Blk w' A 122 ((stage ns k).map u8v).toArray) (fun i w' => 4 - (intOf i).toNat)
  case atStart => exact ⟨0, Nat.zero_le _, rfl, G2.out, HT.out⟩
  case round =>
    obtain ⟨k, hk, rfl, hg, hb⟩ := hrel
    have HG := Lib.hid hg
    have HT := Lib.hid hb
    clear hg hb
    by_cases hlt : k < 4
    · rcases (show k = 0 ∨ k = 1 ∨ k = 2 ∨ k = 3 by omega) with rfl | rfl | rfl | rfl
      · have ix : ∀ w : World, (Instr.index 123 (.agg #[.int .i64 1, .int .i64 (s : Int), .int .i64 (i : Int), .int .i64 (g : Int)]) (.int .i64 0)).run Try.prog w = .ok (.int .i64 1) w := fun _ => by kernel_rfl
        go_wp2_with fail
        refine (put_stage A ns 0 1 _ NS.out.1 (by omega) (by omega) HT.out).mono ?_; rintro e w3 ⟨rfl, g1, hb⟩
        have HT2 := Lib.hid hb
        have HG2 := Lib.hid (grown_own HG.out g1 (fun n hn => by cases hn; exact HA.out))
        clear g1 hb
        go_wp2_with fail
        go_roundw
        case rel => exact ⟨1, by omega, rfl, HG2.out, HT2.out⟩
        case measure => simp [intOf]
      · have ix : ∀ w : World, (Instr.index 123 (.agg #[.int .i64 1, .int .i64 (s : Int), .int .i64 (i : Int), .int .i64 (g : Int)]) (.int .i64 1)).run Try.prog w = .ok (.int .i64 (s : Int)) w := fun _ => by kernel_rfl
        go_wp2_with fail
        refine (put_stage A ns 1 s _ NS.out.2.1 (by omega) BD.out.1 HT.out).mono ?_; rintro e w3 ⟨rfl, g1, hb⟩
        have HT2 := Lib.hid hb
        have HG2 := Lib.hid (grown_own HG.out g1 (fun n hn => by cases hn; exact HA.out))
        clear g1 hb
        go_wp2_with fail
        go_roundw
        case rel => exact ⟨2, by omega, rfl, HG2.out, HT2.out⟩
        case measure => simp [intOf]
      · have ix : ∀ w : World, (Instr.index 123 (.agg #[.int .i64 1, .int .i64 (s : Int), .int .i64 (i : Int), .int .i64 (g : Int)]) (.int .i64 2)).run Try.prog w = .ok (.int .i64 (i : Int)) w := fun _ => by kernel_rfl
        go_wp2_with fail
        refine (put_stage A ns 2 i _ NS.out.2.2.1 (by omega) BD.out.2.1 HT.out).mono ?_; rintro e w3 ⟨rfl, g1, hb⟩
        have HT2 := Lib.hid hb
        have HG2 := Lib.hid (grown_own HG.out g1 (fun n hn => by cases hn; exact HA.out))
        clear g1 hb
        go_wp2_with fail
        go_roundw
        case rel => exact ⟨3, by omega, rfl, HG2.out, HT2.out⟩
        case measure => simp [intOf]
      · have ix : ∀ w : World, (Instr.index 123 (.agg #[.int .i64 1, .int .i64 (s : Int), .int .i64 (i : Int), .int .i64 (g : Int)]) (.int .i64 3)).run Try.prog w = .ok (.int .i64 (g : Int)) w := fun _ => by kernel_rfl
        go_wp2_with fail
        refine (put_stage A ns 3 g _ NS.out.2.2.2 (by omega) BD.out.2.2 HT.out).mono ?_; rintro e w3 ⟨rfl, g1, hb⟩
        have HT2 := Lib.hid hb
        have HG2 := Lib.hid (grown_own HG.out g1 (fun n hn => by cases hn; exact HA.out))
        clear g1 hb
        go_wp2_with fail
        go_roundw
        case rel => exact ⟨4, by omega, rfl, HG2.out, HT2.out⟩
        case measure => simp [intOf]
    · obtain rfl : k = 4 := by omega
      clear hlt hk
      rw [HL.out.1] at HT
      go_wp2_with fail
      have hs := sum_any A 0 24 l wr (by have := HL.out.2; omega) (blk_cells HT.out)
      rw [HL.out.2] at hs
      refine hs.mono ?_; rintro e w3 ⟨rfl, g1⟩
      have HT2 := Lib.hid (HT.out.new g1)
      have HG2 := Lib.hid (World.grownBy.trans HG.out g1)
      clear hs g1 HT HG
      have hp := put_any A 16 8 (fnv l) (l ++ List.replicate 8 0) w3 HT2.out (by rw [List.length_append, HL.out.2]; rfl) (by omega) (by omega) HU.out
      have hq := putK_sum l (fnv l)
      rw [HL.out.2] at hq
      rw [hq, HE.out] at hp
      clear hq HT2
      generalize fnv l = u at *
      go_wp2_with fail
      refine hp.mono ?_; rintro e w4 ⟨rfl, g1, hb⟩
      have hb2 : Blk w4 A 122 ((hB fnv ⟨s, i, g⟩ ++ []).map u8v).toArray := by rw [List.append_nil]; exact hb
      have hbt : Bts w4 (.slice (some ⟨A, 0, none⟩) (hB fnv ⟨s, i, g⟩).length 24) (hB fnv ⟨s, i, g⟩) := .inr (.inl ⟨A, 0, 24, rfl, by rw [hB_len]; omega, by unfold maxLen; omega, blk_cells hb2⟩)
      have hst := hbt.str und22 und5 und9
      rw [hB_len] at hst
      have HG3 := Lib.hid (grown_own HG2.out g1 (fun n hn => by cases hn; exact HA.out))
      clear hb2 hbt hb g1 hp HG2
      generalize hB fnv ⟨s, i, g⟩ = T at *
      go_wp2_with fail
      go_ret2
      exact ⟨rfl, HG3.out⟩

theorem Enc_any (h : Hn) (w : World) : Calls Try.prog 37 #[hnV h] w (TE w (hEnc fnv h)) := by
  by_cases hm : hMay h
  · rw [hEnc_of hm]
    obtain ⟨s, i, g⟩ := h
    have h1 := hm
    obtain ⟨h1, h2, _, h3⟩ := h1
    unfold isC at h1 h2 h3
    dsimp only at h1 h2 h3
    obtain ⟨s, rfl⟩ := Int.eq_ofNat_of_zero_le h1.1
    obtain ⟨i, rfl⟩ := Int.eq_ofNat_of_zero_le h2.1
    obtain ⟨g, rfl⟩ := Int.eq_ofNat_of_zero_le h3.1
    exact enc_ok s i g w hm
  · rw [hEnc_not hm]
    exact enc_bad h w hm
end Go.Proofs.Ytpklgcinijlmmaa
