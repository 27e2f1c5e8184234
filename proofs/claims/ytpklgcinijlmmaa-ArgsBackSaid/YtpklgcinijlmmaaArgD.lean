/- Arguments as words: the document's Write. -/
import Derived.Test.YtpklgcinijlmmaaArgM
import Derived.Deep.RegionHeld3
import Derived.Deep.DeepCutAuto
namespace Go.Proofs.Ytpklgcinijlmmaa
open Go.RowKit

/-- A field's words. -/
def aF (p : PA) (c : UInt8) : List UInt8 := if c = 72 then (hEnc fnv p.h).1 else if c = 84 then (hEnc fnv p.t).1 else if c = 110 then textB p.n else if c = 111 then textB p.o else if c = 116 then textB p.x else if c = 118 then longB p.v.toNat else longB (bits64 (aNum p c))
def aWords (l : List UInt8) (p : PA) : List UInt8 := l.flatMap (aF p)

theorem hEnc_len (h : Hn) : ((hEnc fnv h).1).length ≤ 24 := by
  unfold hEnc
  split
  · rw [hB_len]; omega
  · simp
theorem aF_len (p : PA) (c : UInt8) (hn : p.n.length ≤ 255) (ho : p.o.length ≤ 255) (hx : p.x.length ≤ 2048) : (aF p c).length ≤ 3000 := by
  have h1 := hEnc_len p.h
  have h2 := hEnc_len p.t
  have k1 := textB_len p.n
  have k2 := textB_len p.o
  have k3 := textB_len p.x
  have p1 := pad_le p.n.length
  have p2 := pad_le p.o.length
  have p3 := pad_le p.x.length
  unfold aF
  repeat' split
  all_goals first | omega | (rw [longB_len]; omega)
theorem aWords_len (p : PA) (l : List UInt8) (hn : p.n.length ≤ 255) (ho : p.o.length ≤ 255) (hx : p.x.length ≤ 2048) : (aWords l p).length ≤ 3000 * l.length := by
  induction l with
  | nil => simp [aWords]
  | cons c l ih =>
    have := aF_len p c hn ho hx
    unfold aWords at *
    rw [List.flatMap_cons, List.length_append, List.length_cons]
    omega

set_option maxRecDepth 20000 in
set_option maxHeartbeats 16000000 in
theorem rWrite_ok (k : Nat) (hk : k < 19) (p : PA) (w : World) (hv : 0 ≤ p.v ∧ p.v < 18446744073709551616) (hm : aMay (asks k) p = true) :
    Calls Try.prog 22 #[.int .i64 (k : Int), paV p] w (TE w (aWords (asks k) p, 0)) := by
  have HMM := Lib.hid hm
  have lens : p.n.length ≤ 255 ∧ p.o.length ≤ 255 ∧ p.x.length ≤ 2048 := by simp [aMay] at hm; omega
  have HA := Lib.hid (fun w => asks_any k hk w)
  have HMAY := Lib.hid (fun w => mayArgs_any k hk p w (by omega) (by omega) (by omega))
  rw [hm] at HMAY
  have HEH := Lib.hid (fun w => rEnc_any p.h w)
  have HET := Lib.hid (fun w => rEnc_any p.t w)
  have LH := Lib.hid (hEnc_len p.h)
  have LT := Lib.hid (hEnc_len p.t)
  have HNUM := Lib.hid (fun (c : UInt8) w => anum_any p c w)
  have HL := Lib.hid (asks_len k)
  have AL := Lib.hid (fun j => aWords_len p ((asks k).take j) lens.1 lens.2.1 lens.2.2)
  generalize asks k = l at *
  have AF := Lib.hid (fun c : UInt8 => (rfl : aF p c = aF p c))
  have FH : Hid (aF p 72 = (hEnc fnv p.h).1) := Lib.hid rfl
  have FT : Hid (aF p 84 = (hEnc fnv p.t).1) := Lib.hid rfl
  have Fn : Hid (aF p 110 = textB p.n) := Lib.hid rfl
  have Fo : Hid (aF p 111 = textB p.o) := Lib.hid rfl
  have Fx : Hid (aF p 116 = textB p.x) := Lib.hid rfl
  have Fv : Hid (aF p 118 = longB p.v.toNat) := Lib.hid rfl
  have Fd : Hid (∀ c : UInt8, c ≠ 72 → c ≠ 84 → c ≠ 110 → c ≠ 111 → c ≠ 116 → c ≠ 118 → aF p c = longB (bits64 (aNum p c))) := Lib.hid (fun c k1 k2 k3 k4 k5 k6 => by unfold aF; rw [if_neg k1, if_neg k2, if_neg k3, if_neg k4, if_neg k5, if_neg k6])
  unfold aWords
  unfold aWords at AL
  generalize aF p = F at *
  generalize aNum p = NU at *
  obtain ⟨⟨h1, h2, h3⟩, ⟨t1, t2, t3⟩, n, o, x, a, q, m, s, b, g, v0⟩ := p
  obtain ⟨v, rfl⟩ := Int.eq_ofNat_of_zero_le hv.1
  have LV : Hid (v < 18446744073709551616) := Lib.hid (by have := hv.2; dsimp only at this; omega)
  have LN : Hid (n.length ≤ 255 ∧ o.length ≤ 255 ∧ x.length ≤ 2048) := Lib.hid lens
  dsimp only at HEH HET LH LT FH FT Fn Fo Fx Fv
  rw [Int.toNat_natCast] at Fv
  clear hv hm lens HMM
  unfold paV paC txt at *
  unfold hnV at *
  dsimp only at *
  generalize hEnc fnv ⟨h1, h2, h3⟩ = ph at *
  generalize hEnc fnv ⟨t1, t2, t3⟩ = pt at *
  obtain ⟨eh, fh⟩ := ph
  obtain ⟨et, ft⟩ := pt
  dsimp only at *
  have hk0 : (0 : Int) ≤ k := by omega
  have hk1 : (k : Int) ≤ 18 := by omega
  clear hk
  go_enter Try.func22, Try.ntmps22
  go_upto_region 1 with fail
  have hA := Blk.made w 27 #[.int .i64 h1, .int .i64 h2, .int .i64 h3, .int .i64 t1, .int .i64 t2, .int .i64 t3, .string ⟨n.toArray⟩, .string ⟨o.toArray⟩, .string ⟨x.toArray⟩, .int .i64 a, .int .i64 q, .int .i64 m, .int .i64 s, .int .i64 b, .int .i64 g, .int .u64 (v : Int)]
  have ga := World.grownBy_alloc w (.cells #[.int .i64 h1, .int .i64 h2, .int .i64 h3, .int .i64 t1, .int .i64 t2, .int .i64 t3, .string ⟨n.toArray⟩, .string ⟨o.toArray⟩, .string ⟨x.toArray⟩, .int .i64 a, .int .i64 q, .int .i64 m, .int .i64 s, .int .i64 b, .int .i64 g, .int .u64 (v : Int)] 27) none
  have hlt : w.heap.size < (w.alloc (.cells #[.int .i64 h1, .int .i64 h2, .int .i64 h3, .int .i64 t1, .int .i64 t2, .int .i64 t3, .string ⟨n.toArray⟩, .string ⟨o.toArray⟩, .string ⟨x.toArray⟩, .int .i64 a, .int .i64 q, .int .i64 m, .int .i64 s, .int .i64 b, .int .i64 g, .int .u64 (v : Int)] 27)).heap.size := by simp
  generalize w.alloc (.cells #[.int .i64 h1, .int .i64 h2, .int .i64 h3, .int .i64 t1, .int .i64 t2, .int .i64 t3, .string ⟨n.toArray⟩, .string ⟨o.toArray⟩, .string ⟨x.toArray⟩, .int .i64 a, .int .i64 q, .int .i64 m, .int .i64 s, .int .i64 b, .int .i64 g, .int .u64 (v : Int)] 27) = w1 at *
  generalize hKK : w.heap.size = K at *
  have B_a := Lib.hid hA
  have G := Lib.hid ga
  obtain ⟨W0, hW0⟩ : ∃ W0, W0 = w1.heap.size := ⟨_, rfl⟩
  have HW0 : Hid (w.heap.size ≤ W0 ∧ W0 ≤ w1.heap.size) := Lib.hid (by omega)
  have KW : Hid (K < W0) := Lib.hid (by omega)
  clear hA ga hlt hW0 hKK
  have c0 := B_a.out.cell (i := 0) (x := .int .i64 h1) rfl
  have c1 := B_a.out.cell (i := 1) (x := .int .i64 h2) rfl
  have c2 := B_a.out.cell (i := 2) (x := .int .i64 h3) rfl
  have c3 := B_a.out.cell (i := 3) (x := .int .i64 t1) rfl
  have c4 := B_a.out.cell (i := 4) (x := .int .i64 t2) rfl
  have c5 := B_a.out.cell (i := 5) (x := .int .i64 t3) rfl
  have c6 := B_a.out.cell (i := 6) (x := .string ⟨n.toArray⟩) rfl
  have c7 := B_a.out.cell (i := 7) (x := .string ⟨o.toArray⟩) rfl
  have c8 := B_a.out.cell (i := 8) (x := .string ⟨x.toArray⟩) rfl
  have c9 := B_a.out.cell (i := 9) (x := .int .i64 a) rfl
  have c10 := B_a.out.cell (i := 10) (x := .int .i64 q) rfl
  have c11 := B_a.out.cell (i := 11) (x := .int .i64 m) rfl
  have c12 := B_a.out.cell (i := 12) (x := .int .i64 s) rfl
  have c13 := B_a.out.cell (i := 13) (x := .int .i64 b) rfl
  have c14 := B_a.out.cell (i := 14) (x := .int .i64 g) rfl
  have c15 := B_a.out.cell (i := 15) (x := .int .u64 (v : Int)) rfl
  go_wp2_with fail
  refine (HMAY.out _).mono ?_; rintro e w2 ⟨rfl, g1⟩
  replace B_a := Lib.hid (B_a.out.new g1)
  have G1 := Lib.hid g1
  replace G := Lib.hid (World.grownBy.trans G.out g1)
  clear g1 c0 c1 c2 c3 c4 c5 c6 c7 c8 c9 c10 c11 c12 c13 c14 c15
  go_wp2_with fail
  refine (HA.out _).mono ?_; rintro e w3 ⟨rfl, g1⟩
  replace B_a := Lib.hid (B_a.out.new g1)
  replace G := Lib.hid (World.grownBy.trans G.out g1)
  have SZ : Hid (W0 ≤ w3.heap.size) := Lib.hid (by have := HW0.out; have := G1.out.size; have := g1.size; omega)
  clear g1 HA HMAY G1
  go_wp2_with fail
  have ONIL := Lib.hid (Own.nil w3 W0)
  go_loopw [6, 8] (fun bv i w' => ∃ j : Nat, j ≤ l.length ∧ i = .int .i64 j ∧ Own w' W0 bv ((l.take j).flatMap F) ∧ w.grownBy w' none ∧ Blk w' K 27 #[.int .i64 h1, .int .i64 h2, .int .i64 h3, .int .i64 t1, .int .i64 t2, .int .i64 t3, .string ⟨n.toArray⟩, .string ⟨o.toArray⟩, .string ⟨x.toArray⟩, .int .i64 a, .int .i64 q, .int .i64 m, .int .i64 s, .int .i64 b, .int .i64 g, .int .u64 (v : Int)] ∧ W0 ≤ w'.heap.size) (fun _ i w' => l.length - (intOf i).toNat)
  case atStart => exact ⟨0, Nat.zero_le _, rfl, ONIL.out, G.out, B_a.out, SZ.out⟩
  case round =>
    clear ONIL G B_a
    obtain ⟨j, hj, rfl, hown, hg, hblk, hsz⟩ := hrel
    clear SZ
    have SZ := Lib.hid hsz
    obtain ⟨a0, n0, c0, rfl⟩ := hown.bts.shape
    have G := Lib.hid hg
    have B_a := Lib.hid hblk
    have hl100 : (l.length : Int) ≤ 100 := by have := HL.out; omega
    have BL : Hid (((l.take j).flatMap F).length ≤ 300000) := Lib.hid (by have h1 := AL.out j; have h2 := HL.out; rw [List.length_take] at h1; have h3 : min j l.length ≤ 100 := Nat.le_trans (Nat.min_le_right _ _) h2; omega)
    by_cases hlt : j < l.length
    · have hix := fun w => idx_str l j hlt w
      have HS : Hid ((l.take (j + 1)).flatMap F = (l.take j).flatMap F ++ F l[j]) := Lib.hid (by rw [List.take_succ_eq_append_getElem hlt, List.flatMap_append]; simp)
      have OW := Lib.hid hown
      have hjl : (j : Int) < l.length := by omega
      have key : l[j] = 72 ∨ l[j] = 84 ∨ l[j] = 110 ∨ l[j] = 111 ∨ l[j] = 116 ∨ l[j] = 118 ∨ (l[j] ≠ 72 ∧ l[j] ≠ 84 ∧ l[j] ≠ 110 ∧ l[j] ≠ 111 ∧ l[j] ≠ 116 ∧ l[j] ≠ 118) := by
        by_cases e1 : l[j] = 72 <;> by_cases e2 : l[j] = 84 <;> by_cases e3 : l[j] = 110 <;> by_cases e4 : l[j] = 111 <;> by_cases e5 : l[j] = 116 <;> by_cases e6 : l[j] = 118 <;> simp [e1, e2, e3, e4, e5, e6]
      generalize l[j] = ch at *
      generalize (l.take j).flatMap F = bs at *
      clear hown hg hblk hsz AL
      rcases key with rfl | rfl | rfl | rfl | rfl | rfl | ⟨k1, k2, k3, k4, k5, k6⟩
      · rw [FH.out] at HS
        have hix : ∀ w : World, (Instr.index 9 (.string ⟨l.toArray⟩) (.int .i64 (j : Int))).run Try.prog w = .ok (.int .u8 72) w := hix
        have c0 := B_a.out.cell (i := 0) (x := .int .i64 h1) rfl
        have c1 := B_a.out.cell (i := 1) (x := .int .i64 h2) rfl
        have c2 := B_a.out.cell (i := 2) (x := .int .i64 h3) rfl
        go_wp2_with fail
        refine (HEH.out _).mono ?_; rintro e0 w4 ⟨rfl, g1⟩
        try unfold txt
        replace G := Lib.hid (World.grownBy.trans G.out g1)
        replace B_a := Lib.hid (B_a.out.new g1)
        replace OW := Lib.hid (OW.out.new g1)
        replace SZ := Lib.hid (Nat.le_trans SZ.out g1.size)
        clear g1 c0 c1 c2
        go_wp2_with (at_builtin; refine wpList_append_txt rfl _ _ rfl W0 _ bs ⟨eh.toArray⟩ rfl rfl OW.out (by have := BL.out; have := LH.out; show bs.length + eh.length ≤ _; omega) SZ.out ?_; rintro v5 w5 h6 h7; obtain ⟨a5, n5, c5, rfl⟩ := h6.bts.shape; have H6 := Lib.hid h6; have H7 := Lib.hid h7; clear h6 h7)
        have G2 := Lib.hid (grown_own G.out H7.out (fun k hk => by have := (OW.out.lt k hk).1; have := HW0.out; omega))
        have B2 := Lib.hid (B_a.out.kept H7.out (by intro e1; have := (OW.out.lt K e1.symm).1; have := KW.out; omega))
        go_roundw
        case rel => exact ⟨j + 1, by omega, by go_num, by rw [HS.out]; exact H6.out, G2.out, B2.out, Nat.le_trans SZ.out H7.out.size⟩
        case measure => simp [intOf]; omega
      · rw [FT.out] at HS
        have hix : ∀ w : World, (Instr.index 9 (.string ⟨l.toArray⟩) (.int .i64 (j : Int))).run Try.prog w = .ok (.int .u8 84) w := hix
        have c3 := B_a.out.cell (i := 3) (x := .int .i64 t1) rfl
        have c4 := B_a.out.cell (i := 4) (x := .int .i64 t2) rfl
        have c5 := B_a.out.cell (i := 5) (x := .int .i64 t3) rfl
        go_wp2_with fail
        refine (HET.out _).mono ?_; rintro e0 w4 ⟨rfl, g1⟩
        try unfold txt
        replace G := Lib.hid (World.grownBy.trans G.out g1)
        replace B_a := Lib.hid (B_a.out.new g1)
        replace OW := Lib.hid (OW.out.new g1)
        replace SZ := Lib.hid (Nat.le_trans SZ.out g1.size)
        clear g1 c3 c4 c5
        go_wp2_with (at_builtin; refine wpList_append_txt rfl _ _ rfl W0 _ bs ⟨et.toArray⟩ rfl rfl OW.out (by have := BL.out; have := LT.out; show bs.length + et.length ≤ _; omega) SZ.out ?_; rintro v5 w5 h6 h7; obtain ⟨a5, n5, c5, rfl⟩ := h6.bts.shape; have H6 := Lib.hid h6; have H7 := Lib.hid h7; clear h6 h7)
        have G2 := Lib.hid (grown_own G.out H7.out (fun k hk => by have := (OW.out.lt k hk).1; have := HW0.out; omega))
        have B2 := Lib.hid (B_a.out.kept H7.out (by intro e1; have := (OW.out.lt K e1.symm).1; have := KW.out; omega))
        go_roundw
        case rel => exact ⟨j + 1, by omega, by go_num, by rw [HS.out]; exact H6.out, G2.out, B2.out, Nat.le_trans SZ.out H7.out.size⟩
        case measure => simp [intOf]; omega
      · rw [Fn.out] at HS
        have hix : ∀ w : World, (Instr.index 9 (.string ⟨l.toArray⟩) (.int .i64 (j : Int))).run Try.prog w = .ok (.int .u8 110) w := hix
        have c6 := B_a.out.cell (i := 6) (x := .string ⟨n.toArray⟩) rfl
        have hc := Lib.hid (refText_any _ bs ⟨n.toArray⟩ wr OW.out.bts (by have := BL.out; omega) (by have := LN.out; show n.length ≤ _; omega))
        go_wp2_with fail
        refine hc.out.mono ?_; rintro e0 w4 ⟨v5, rfl, h6, g1⟩
        obtain ⟨a5, n5, c5, rfl⟩ := h6.bts.shape
        have H6 := Lib.hid (h6.base (b' := W0) SZ.out)
        replace SZ := Lib.hid (Nat.le_trans SZ.out g1.size)
        replace G := Lib.hid (World.grownBy.trans G.out g1)
        replace B_a := Lib.hid (B_a.out.new g1)
        clear g1 h6 hc c6
        go_wp2_with fail
        go_roundw
        case rel => exact ⟨j + 1, by omega, by go_num, by rw [HS.out]; exact H6.out, G.out, B_a.out, SZ.out⟩
        case measure => simp [intOf]; omega
      · rw [Fo.out] at HS
        have hix : ∀ w : World, (Instr.index 9 (.string ⟨l.toArray⟩) (.int .i64 (j : Int))).run Try.prog w = .ok (.int .u8 111) w := hix
        have c7 := B_a.out.cell (i := 7) (x := .string ⟨o.toArray⟩) rfl
        have hc := Lib.hid (refText_any _ bs ⟨o.toArray⟩ wr OW.out.bts (by have := BL.out; omega) (by have := LN.out; show o.length ≤ _; omega))
        go_wp2_with fail
        refine hc.out.mono ?_; rintro e0 w4 ⟨v5, rfl, h6, g1⟩
        obtain ⟨a5, n5, c5, rfl⟩ := h6.bts.shape
        have H6 := Lib.hid (h6.base (b' := W0) SZ.out)
        replace SZ := Lib.hid (Nat.le_trans SZ.out g1.size)
        replace G := Lib.hid (World.grownBy.trans G.out g1)
        replace B_a := Lib.hid (B_a.out.new g1)
        clear g1 h6 hc c7
        go_wp2_with fail
        go_roundw
        case rel => exact ⟨j + 1, by omega, by go_num, by rw [HS.out]; exact H6.out, G.out, B_a.out, SZ.out⟩
        case measure => simp [intOf]; omega
      · rw [Fx.out] at HS
        have hix : ∀ w : World, (Instr.index 9 (.string ⟨l.toArray⟩) (.int .i64 (j : Int))).run Try.prog w = .ok (.int .u8 116) w := hix
        have c8 := B_a.out.cell (i := 8) (x := .string ⟨x.toArray⟩) rfl
        have hc := Lib.hid (refText_any _ bs ⟨x.toArray⟩ wr OW.out.bts (by have := BL.out; omega) (by have := LN.out; show x.length ≤ _; omega))
        go_wp2_with fail
        refine hc.out.mono ?_; rintro e0 w4 ⟨v5, rfl, h6, g1⟩
        obtain ⟨a5, n5, c5, rfl⟩ := h6.bts.shape
        have H6 := Lib.hid (h6.base (b' := W0) SZ.out)
        replace SZ := Lib.hid (Nat.le_trans SZ.out g1.size)
        replace G := Lib.hid (World.grownBy.trans G.out g1)
        replace B_a := Lib.hid (B_a.out.new g1)
        clear g1 h6 hc c8
        go_wp2_with fail
        go_roundw
        case rel => exact ⟨j + 1, by omega, by go_num, by rw [HS.out]; exact H6.out, G.out, B_a.out, SZ.out⟩
        case measure => simp [intOf]; omega
      · rw [Fv.out] at HS
        have hix : ∀ w : World, (Instr.index 9 (.string ⟨l.toArray⟩) (.int .i64 (j : Int))).run Try.prog w = .ok (.int .u8 118) w := hix
        have c15 := B_a.out.cell (i := 15) (x := .int .u64 (v : Int)) rfl
        have hc := Lib.hid (refLong_any _ bs v wr OW.out.bts (by have := BL.out; omega) (by have := LV.out; omega))
        go_wp2_with fail
        refine hc.out.mono ?_; rintro e0 w4 ⟨v5, rfl, h6, g1⟩
        obtain ⟨a5, n5, c5, rfl⟩ := h6.bts.shape
        have H6 := Lib.hid (h6.base (b' := W0) SZ.out)
        replace SZ := Lib.hid (Nat.le_trans SZ.out g1.size)
        replace G := Lib.hid (World.grownBy.trans G.out g1)
        replace B_a := Lib.hid (B_a.out.new g1)
        clear g1 h6 hc c15
        go_wp2_with fail
        go_roundw
        case rel => exact ⟨j + 1, by omega, by go_num, by rw [HS.out]; exact H6.out, G.out, B_a.out, SZ.out⟩
        case measure => simp [intOf]; omega
      · rw [Fd.out ch k1 k2 k3 k4 k5 k6] at HS
        have d : ∀ y : UInt8, ch ≠ y → ¬ ((ch.toNat : Int) = (y.toNat : Int)) := fun y h e => h (UInt8.toNat_inj.1 (by omega))
        have k1 : ¬ ((ch.toNat : Int) = 72) := d 72 k1
        have k2 : ¬ ((ch.toNat : Int) = 84) := d 84 k2
        have k3 : ¬ ((ch.toNat : Int) = 110) := d 110 k3
        have k4 : ¬ ((ch.toNat : Int) = 111) := d 111 k4
        have k5 : ¬ ((ch.toNat : Int) = 116) := d 116 k5
        have k6 : ¬ ((ch.toNat : Int) = 118) := d 118 k6
        clear d
        go_upto_region 11 with fail
        have KEEP : Hid (∀ w', wr.grownBy w' none → (w'.cell? ⟨K, 0, none⟩ = some (.int .i64 h1) ∧ w'.cell? ⟨K, 1, none⟩ = some (.int .i64 h2) ∧ w'.cell? ⟨K, 2, none⟩ = some (.int .i64 h3) ∧ w'.cell? ⟨K, 3, none⟩ = some (.int .i64 t1) ∧ w'.cell? ⟨K, 4, none⟩ = some (.int .i64 t2) ∧ w'.cell? ⟨K, 5, none⟩ = some (.int .i64 t3) ∧ w'.cell? ⟨K, 6, none⟩ = some (.string ⟨n.toArray⟩) ∧ w'.cell? ⟨K, 7, none⟩ = some (.string ⟨o.toArray⟩) ∧ w'.cell? ⟨K, 8, none⟩ = some (.string ⟨x.toArray⟩) ∧ w'.cell? ⟨K, 9, none⟩ = some (.int .i64 a) ∧ w'.cell? ⟨K, 10, none⟩ = some (.int .i64 q) ∧ w'.cell? ⟨K, 11, none⟩ = some (.int .i64 m) ∧ w'.cell? ⟨K, 12, none⟩ = some (.int .i64 s) ∧ w'.cell? ⟨K, 13, none⟩ = some (.int .i64 b) ∧ w'.cell? ⟨K, 14, none⟩ = some (.int .i64 g) ∧ w'.cell? ⟨K, 15, none⟩ = some (.int .u64 (v : Int)))) := Lib.hid (fun w' hg => ⟨(B_a.out.new hg).cell (i := 0) rfl, (B_a.out.new hg).cell (i := 1) rfl, (B_a.out.new hg).cell (i := 2) rfl, (B_a.out.new hg).cell (i := 3) rfl, (B_a.out.new hg).cell (i := 4) rfl, (B_a.out.new hg).cell (i := 5) rfl, (B_a.out.new hg).cell (i := 6) rfl, (B_a.out.new hg).cell (i := 7) rfl, (B_a.out.new hg).cell (i := 8) rfl, (B_a.out.new hg).cell (i := 9) rfl, (B_a.out.new hg).cell (i := 10) rfl, (B_a.out.new hg).cell (i := 11) rfl, (B_a.out.new hg).cell (i := 12) rfl, (B_a.out.new hg).cell (i := 13) rfl, (B_a.out.new hg).cell (i := 14) rfl, (B_a.out.new hg).cell (i := 15) rfl⟩)
        refine wp_region_noPanic ?_
        refine wp_region_held_drew (S := fun w' => (w'.cell? ⟨K, 0, none⟩ = some (.int .i64 h1) ∧ w'.cell? ⟨K, 1, none⟩ = some (.int .i64 h2) ∧ w'.cell? ⟨K, 2, none⟩ = some (.int .i64 h3) ∧ w'.cell? ⟨K, 3, none⟩ = some (.int .i64 t1) ∧ w'.cell? ⟨K, 4, none⟩ = some (.int .i64 t2) ∧ w'.cell? ⟨K, 5, none⟩ = some (.int .i64 t3) ∧ w'.cell? ⟨K, 6, none⟩ = some (.string ⟨n.toArray⟩) ∧ w'.cell? ⟨K, 7, none⟩ = some (.string ⟨o.toArray⟩) ∧ w'.cell? ⟨K, 8, none⟩ = some (.string ⟨x.toArray⟩) ∧ w'.cell? ⟨K, 9, none⟩ = some (.int .i64 a) ∧ w'.cell? ⟨K, 10, none⟩ = some (.int .i64 q) ∧ w'.cell? ⟨K, 11, none⟩ = some (.int .i64 m) ∧ w'.cell? ⟨K, 12, none⟩ = some (.int .i64 s) ∧ w'.cell? ⟨K, 13, none⟩ = some (.int .i64 b) ∧ w'.cell? ⟨K, 14, none⟩ = some (.int .i64 g) ∧ w'.cell? ⟨K, 15, none⟩ = some (.int .u64 (v : Int)))) (by kernel_rfl) (KEEP.out _ (drew_grown _ _)) (fun hHeld => ?_)
        have HG : Hid (wr.grownBy wr.drew none) := Lib.hid (drew_grown _ _)
        refine wpAnyH_take (i := 0) (v := ?_) (by simp only [List.getElem?_toArray, List.getElem?_cons_zero]; rfl) (by kernel_rfl) (by kernel_rfl) (by kernel_rfl) (fun _ _ _ h => h) (Or.inl ⟨by rfl, ?_⟩) (by assumption) ?_
        rotate_left 1
        · intro w hSw; (try dsimp only at hSw); go_simp; all_goals (with_reducible rfl)
        try simp only [Act.put, List.setIfInBounds_toArray, List.set_cons_zero, List.set_cons_succ]
        refine wpAnyH_take (i := 1) (v := ?_) (by simp only [List.getElem?_toArray, List.getElem?_cons_succ, List.getElem?_cons_zero]; rfl) (by kernel_rfl) (by kernel_rfl) (by kernel_rfl) (fun _ _ _ h => h) (Or.inl ⟨by rfl, ?_⟩) (by assumption) ?_
        rotate_left 1
        · intro w hSw; (try dsimp only at hSw); go_simp; all_goals (with_reducible rfl)
        try simp only [Act.put, List.setIfInBounds_toArray, List.set_cons_zero, List.set_cons_succ]
        refine wpAnyH_take (i := 2) (v := ?_) (by simp only [List.getElem?_toArray, List.getElem?_cons_succ, List.getElem?_cons_zero]; rfl) (by kernel_rfl) (by kernel_rfl) (by kernel_rfl) (fun _ _ _ h => h) (Or.inl ⟨by rfl, ?_⟩) (by assumption) ?_
        rotate_left 1
        · intro w hSw; (try dsimp only at hSw); go_simp; all_goals (with_reducible rfl)
        try simp only [Act.put, List.setIfInBounds_toArray, List.set_cons_zero, List.set_cons_succ]
        refine wpAnyH_take (i := 3) (v := ?_) (by simp only [List.getElem?_toArray, List.getElem?_cons_succ, List.getElem?_cons_zero]; rfl) (by kernel_rfl) (by kernel_rfl) (by kernel_rfl) (fun _ _ _ h => h) (Or.inl ⟨by rfl, ?_⟩) (by assumption) ?_
        rotate_left 1
        · intro w hSw; (try dsimp only at hSw); go_simp; all_goals (with_reducible rfl)
        try simp only [Act.put, List.setIfInBounds_toArray, List.set_cons_zero, List.set_cons_succ]
        refine wpAnyH_take (i := 4) (v := ?_) (by simp only [List.getElem?_toArray, List.getElem?_cons_succ, List.getElem?_cons_zero]; rfl) (by kernel_rfl) (by kernel_rfl) (by kernel_rfl) (fun _ _ _ h => h) (Or.inl ⟨by rfl, ?_⟩) (by assumption) ?_
        rotate_left 1
        · intro w hSw; (try dsimp only at hSw); go_simp; all_goals (with_reducible rfl)
        try simp only [Act.put, List.setIfInBounds_toArray, List.set_cons_zero, List.set_cons_succ]
        refine wpAnyH_ready (rs := [5]) (by kernel_rfl) (by simp) ?_
        refine AllReadyH.cons (by simp only [List.getElem?_toArray, List.getElem?_cons_succ, List.getElem?_cons_zero]; rfl) (fun KK hK => ?_) AllReadyH.nil
        go_simp
        refine (HNUM.out _ _).mono ?_; rintro e0 v1 ⟨rfl, hg⟩
        clear hHeld
        replace HG := Lib.hid (World.grownBy.trans HG.out hg)
        clear hg
        go_wp2_with fail
        refine hK.out _ _ (KEEP.out _ HG.out) (fun hHeld => ?_)
        clear hK KK
        try simp only [Act.put, List.setIfInBounds_toArray, List.set_cons_zero, List.set_cons_succ]
        refine wpAnyH_ready (rs := [6]) (by kernel_rfl) (by simp) ?_
        refine AllReadyH.cons (by simp only [List.getElem?_toArray, List.getElem?_cons_succ, List.getElem?_cons_zero]; rfl) (fun KK hK => ?_) AllReadyH.nil
        go_simp
        refine (refInt_any _ bs _ _ (OW.out.new HG.out).bts (by have := BL.out; omega)).mono ?_; rintro e0 v2 ⟨v5, rfl, h6, hg⟩
        obtain ⟨a5, n5, c5, rfl⟩ := h6.bts.shape
        have H6 := Lib.hid (h6.base (b' := W0) (by have := HG.out.size; have := SZ.out; omega))
        clear hHeld h6
        replace HG := Lib.hid (World.grownBy.trans HG.out hg)
        clear hg
        go_wp2_with fail
        refine hK.out _ _ (KEEP.out _ HG.out) (fun hHeld => ?_)
        clear hK KK
        try simp only [Act.put, List.setIfInBounds_toArray, List.set_cons_zero, List.set_cons_succ]
        refine wpAnyH_take (i := 7) (v := ?_) (by simp only [List.getElem?_toArray, List.getElem?_cons_succ, List.getElem?_cons_zero]; rfl) (by kernel_rfl) (by kernel_rfl) (by kernel_rfl) (fun _ _ _ h => h) (Or.inl ⟨by rfl, ?_⟩) (by assumption) ?_
        rotate_left 1
        · intro w hSw; (try dsimp only at hSw); go_simp; all_goals (with_reducible rfl)
        try simp only [Act.put, List.setIfInBounds_toArray, List.set_cons_zero, List.set_cons_succ]
        refine wpAnyH_done (by kernel_rfl) ?_ _
        refine NoPanic.normal ?_
        go_wp2_with fail
        go_roundw
        case rel => exact ⟨j + 1, by omega, by go_num, by rw [HS.out]; exact H6.out, World.grownBy.trans G.out HG.out, B_a.out.new HG.out, Nat.le_trans SZ.out HG.out.size⟩
        case measure => simp [intOf]; omega
    · obtain rfl : j = l.length := by omega
      rw [List.take_length] at hown BL
      have OW := Lib.hid hown
      have hst := hown.bts.str und22 und5 und9
      generalize l.flatMap F = bs at *
      clear hown hg hblk hsz AL hlt
      go_wp2_with fail
      go_ret2
      exact ⟨rfl, G.out⟩

def aWrite (k : Int) (p : PA) : List UInt8 × Int := if 0 ≤ k ∧ k < 19 then (if aMay (asks k.toNat) p = true then (aWords (asks k.toNat) p, 0) else ([], 4)) else ([], 62)

set_option maxRecDepth 20000 in
set_option maxHeartbeats 2000000 in
theorem rWrite_off (k : Int) (p : PA) (w : World) (hk : k < 0 ∨ 19 ≤ k) : Calls Try.prog 22 #[.int .i64 k, paV p] w (TE w ([], 62)) := by
  unfold paV paC txt
  rcases hk with hk | hk
  · go_enter Try.func22, Try.ntmps22
    go_wp2_with fail
    go_ret2
    exact ⟨rfl, World.grownBy_alloc _ _ _⟩
  · have hk2 : 0 ≤ k := by omega
    go_enter Try.func22, Try.ntmps22
    go_wp2_with fail
    go_ret2
    exact ⟨rfl, World.grownBy_alloc _ _ _⟩

set_option maxRecDepth 20000 in
set_option maxHeartbeats 2000000 in
theorem rWrite_not (k : Nat) (hk : k < 19) (p : PA) (w : World) (hn : p.n.length ≤ 1000000000) (ho : p.o.length ≤ 1000000000) (hx : p.x.length ≤ 1000000000) (hm : aMay (asks k) p = false) :
    Calls Try.prog 22 #[.int .i64 (k : Int), paV p] w (TE w ([], 4)) := by
  have HMAY := Lib.hid (fun w => mayArgs_any k hk p w hn ho hx)
  rw [hm] at HMAY
  have hk0 : (0 : Int) ≤ k := by omega
  have hk1 : (k : Int) ≤ 18 := by omega
  obtain ⟨⟨h1, h2, h3⟩, ⟨t1, t2, t3⟩, n, o, x, a, q, m, s, b, g, v⟩ := p
  unfold paV paC txt at *
  dsimp only at *
  clear hk hm hn ho hx
  go_enter Try.func22, Try.ntmps22
  go_wp2_with fail
  refine (HMAY.out _).mono ?_; rintro e w2 ⟨rfl, g1⟩
  have G := Lib.hid (World.grownBy.trans (World.grownBy_alloc w _ none) g1)
  clear g1
  go_wp2_with fail
  go_ret2
  exact ⟨rfl, G.out⟩

theorem rWrite_any (k : Int) (p : PA) (w : World) (hv : 0 ≤ p.v ∧ p.v < 18446744073709551616) (hn : p.n.length ≤ 1000000000) (ho : p.o.length ≤ 1000000000) (hx : p.x.length ≤ 1000000000) :
    Calls Try.prog 22 #[.int .i64 k, paV p] w (TE w (aWrite k p)) := by
  unfold aWrite
  by_cases hk : 0 ≤ k ∧ k < 19
  · rw [if_pos hk]
    obtain ⟨j, rfl⟩ := Int.eq_ofNat_of_zero_le hk.1
    rw [Int.toNat_natCast]
    by_cases hm : aMay (asks j) p = true
    · rw [if_pos hm]; exact rWrite_ok j (by omega) p w hv hm
    · rw [if_neg hm]; exact rWrite_not j (by omega) p w hn ho hx (by simpa using hm)
  · rw [if_neg hk]; exact rWrite_off k p w (by omega)
end Go.Proofs.Ytpklgcinijlmmaa
