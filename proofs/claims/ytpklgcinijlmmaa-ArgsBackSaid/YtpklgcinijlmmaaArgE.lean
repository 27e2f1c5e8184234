/- Arguments as words: the document's Read. -/
import Derived.Test.YtpklgcinijlmmaaArgD
namespace Go.Proofs.Ytpklgcinijlmmaa
open Go.RowKit

/-- One field read. -/
def aRd1 (c : UInt8) (z : PA × Bool × St) : PA × Bool × St :=
  if c = 72 then ({ z.1 with h := (hRd z.2.2).1.1 }, z.2.1 && (hRd z.2.2).1.2, (hRd z.2.2).2)
  else if c = 84 then ({ z.1 with t := (hRd z.2.2).1.1 }, z.2.1 && (hRd z.2.2).1.2, (hRd z.2.2).2)
  else if c = 110 then ({ z.1 with n := (rText 255 z.2.2).1 }, z.2.1, (rText 255 z.2.2).2)
  else if c = 111 then ({ z.1 with o := (rText 255 z.2.2).1 }, z.2.1, (rText 255 z.2.2).2)
  else if c = 116 then ({ z.1 with x := (rText 2048 z.2.2).1 }, z.2.1, (rText 2048 z.2.2).2)
  else if c = 118 then ({ z.1 with v := (rLong z.2.2).1 }, z.2.1, (rLong z.2.2).2)
  else if c = 97 then ({ z.1 with a := (rInt z.2.2).1 }, z.2.1, (rInt z.2.2).2)
  else if c = 78 then ({ z.1 with c := (rInt z.2.2).1 }, z.2.1, (rInt z.2.2).2)
  else if c = 109 then ({ z.1 with m := (rInt z.2.2).1 }, z.2.1, (rInt z.2.2).2)
  else if c = 115 then ({ z.1 with s := (rInt z.2.2).1 }, z.2.1, (rInt z.2.2).2)
  else if c = 83 then ({ z.1 with b := (rInt z.2.2).1 }, z.2.1, (rInt z.2.2).2)
  else if c = 103 then ({ z.1 with g := (rInt z.2.2).1 }, z.2.1, (rInt z.2.2).2)
  else z
def RD (z : PA × Bool × St) (c : UInt8) : PA × Bool × St := aRd1 c z
def aRds (l : List UInt8) (t : List UInt8) : PA × Bool × St := l.foldl RD (noPA, true, some t)
def aJudge (z : PA × Bool × St) : PA × Int := if (z.2.1 && rDone z.2.2) = true then (z.1, 0) else (noPA, 4)
theorem aJudge_no {z : PA × Bool × St} (h : (z.2.1 && rDone z.2.2) = false) : aJudge z = (noPA, 4) := by unfold aJudge; rw [h]; rfl
theorem aJudge_yes {z : PA × Bool × St} (h : (z.2.1 && rDone z.2.2) = true) : aJudge z = (z.1, 0) := by unfold aJudge; rw [h]; rfl
def aRead (k : Int) (t : List UInt8) : PA × Int := if 0 ≤ k ∧ k < 19 then aJudge (aRds (asks k.toNat) t) else (noPA, 62)
/-- Arguments and an error, told. -/
def PT (w : World) (p : PA × Int) (e : Ending) (w' : World) : Prop := e = .returned (.tuple #[paV p.1, .int .i64 p.2]) ∧ w.grownBy w' none

theorem Blk.row {w : World} {r : Nat} {t : TypeId} {xs : Array Value} (h : Blk w r t xs) (cs : Array Value) : Blk (w.setRow r cs) r t cs := setRow_heap w r xs cs t (0, 0) h
theorem setRow_grown (w : World) (g : Nat) (cs : Array Value) : w.grownBy (w.setRow g cs) (some g) := by
  refine ⟨rfl, rfl, rfl, by simp, fun k _ hne => ?_⟩
  have h : g ≠ k := fun e => hne (congrArg some e.symm)
  simp [World.setRow, Array.getElem?_modify, h]

theorem RRdrS.lt {w : World} {r : Nat} {g : Option Nat} {s : St} (h : RRdrS w r g s) : r < w.heap.size := by
  obtain ⟨v, h1, _⟩ := h
  exact h1.lt
theorem RK.lt {W w : World} {R H r : Nat} {g : Option Nat} {t : TypeId} {zs xs : Array Value} {s : St} (h : RK W w R H r g t zs xs s) : r < w.heap.size := h.rdr.lt
theorem RK.le {W w : World} {R H r : Nat} {g : Option Nat} {t : TypeId} {zs xs : Array Value} {s : St} (h : RK W w R H r g t zs xs s) : W.heap.size ≤ R := h.2.2.2.2.1.1

theorem rLong_len (s : St) : (((rLong s).2).getD []).length ≤ (s.getD []).length := by
  unfold rLong
  split
  · simp; omega
  · simp
theorem rInt_len (s : St) : (((rInt s).2).getD []).length ≤ (s.getD []).length := rLong_len s
theorem rText_len (m : Int) (s : St) : (((rText m s).2).getD []).length ≤ (s.getD []).length := Nat.le_trans (rFixed_le _ _).2 (rCount_len _ _)
theorem hRd_len (s : St) : (((hRd s).2).getD []).length ≤ (s.getD []).length := (rFixed_le 24 s).2

set_option maxRecDepth 20000 in
set_option maxHeartbeats 2000000 in
theorem rRead_off (k : Int) (l : List UInt8) (w : World) (hk : k < 0 ∨ 19 ≤ k) : Calls Try.prog 23 #[.int .i64 k, .string ⟨l.toArray⟩] w (PT w (noPA, 62)) := by
  rcases hk with hk | hk
  · go_enter Try.func23, Try.ntmps23
    go_wp2_with fail
    exact bodyPost_ret (v := .tuple #[paV noPA, .int .i64 62]) (by simp [results, Try.results23, go_sem, paV, paC, noPA, noHn, txt]) rfl ⟨rfl, World.grownBy_alloc _ _ _⟩
  · have hk2 : 0 ≤ k := by omega
    go_enter Try.func23, Try.ntmps23
    go_wp2_with fail
    exact bodyPost_ret (v := .tuple #[paV noPA, .int .i64 62]) (by simp [results, Try.results23, go_sem, paV, paC, noPA, noHn, txt]) rfl ⟨rfl, World.grownBy_alloc _ _ _⟩

set_option maxRecDepth 20000 in
set_option maxHeartbeats 32000000 in
theorem rRead_on (k : Nat) (hk : k < 19) (tx : List UInt8) (w : World) (ht : tx.length ≤ 100000) : Calls Try.prog 23 #[.int .i64 (k : Int), .string ⟨tx.toArray⟩] w (PT w (aJudge (aRds (asks k) tx))) := by
  have HA := Lib.hid (fun w => asks_any k hk w)
  have HL := Lib.hid (asks_len k)
  generalize asks k = l at *
  obtain ⟨Z, hJJ⟩ : ∃ Z, aJudge (aRds l tx) = Z := ⟨_, rfl⟩
  have HJ0 := Lib.hid hJJ
  rw [hJJ]
  clear hJJ
  have hcv : ∀ w : World, (convert 9 55 (.string ⟨tx.toArray⟩)).run Try.prog w = .ok (.slice (some ⟨w.heap.size, 0, none⟩) (⟨tx.toArray⟩ : ByteArray).size (grownCap w (⟨tx.toArray⟩ : ByteArray).size 0 5)) (Lib.bytesWorld w 5 ⟨tx.toArray⟩) := fun w => Lib.run_convert_string_bytes w _ _ _ _ und9 und22 und5
  have HT0 := Lib.hid ht
  have hk0 : (0 : Int) ≤ k := by omega
  have hk1 : (k : Int) ≤ 18 := by omega
  clear hk ht
  go_enter Try.func23, Try.ntmps23
  go_upto_region 1 with fail
  have hR := Blk.made w 27 #[.int .i64 0, .int .i64 0, .int .i64 0, .int .i64 0, .int .i64 0, .int .i64 0, .string ⟨#[]⟩, .string ⟨#[]⟩, .string ⟨#[]⟩, .int .i64 0, .int .i64 0, .int .i64 0, .int .i64 0, .int .i64 0, .int .i64 0, .int .u64 0]
  have ga := World.grownBy_alloc w (.cells #[.int .i64 0, .int .i64 0, .int .i64 0, .int .i64 0, .int .i64 0, .int .i64 0, .string ⟨#[]⟩, .string ⟨#[]⟩, .string ⟨#[]⟩, .int .i64 0, .int .i64 0, .int .i64 0, .int .i64 0, .int .i64 0, .int .i64 0, .int .u64 0] 27) none
  generalize w.alloc (.cells #[.int .i64 0, .int .i64 0, .int .i64 0, .int .i64 0, .int .i64 0, .int .i64 0, .string ⟨#[]⟩, .string ⟨#[]⟩, .string ⟨#[]⟩, .int .i64 0, .int .i64 0, .int .i64 0, .int .i64 0, .int .i64 0, .int .i64 0, .int .u64 0] 27) = w1 at *
  obtain ⟨R, hRR⟩ : ∃ R, R = w.heap.size := ⟨_, rfl⟩
  rw [← hRR] at hR ⊢
  have RW : Hid (w.heap.size ≤ R) := Lib.hid (by omega)
  clear hRR
  go_wp2_with fail
  clear hcv
  have g2 := bytesWorld_grown w1 5 ⟨tx.toArray⟩
  have hT := bytesWorld_bts w1 ⟨tx.toArray⟩ (by have := HT0.out; show tx.length ≤ _; omega)
  generalize Lib.bytesWorld w1 5 ⟨tx.toArray⟩ = w2 at *
  have HR := Lib.hid (hR.new g2)
  have G := Lib.hid (World.grownBy.trans ga g2)
  clear hR ga g2
  refine (refNewReader_any _ tx w2 hT (by have := HT0.out; omega)).mono ?_; rintro e w3 ⟨r, g, rfl, y1, y2, y3, y4, y5⟩
  have HRK0 := Lib.hid (RK.begin (xs := #[.int .i64 0, .int .i64 0, .int .i64 0, .int .i64 0, .int .i64 0, .int .i64 0, .string ⟨#[]⟩, .string ⟨#[]⟩, .string ⟨#[]⟩, .int .i64 0, .int .i64 0, .int .i64 0, .int .i64 0, .int .i64 0, .int .i64 0, .int .u64 0]) HR.out G.out RW.out y1 y2 y3 y4 y5)
  clear y1 y2 y3 y4 y5 HR G hT
  go_upto_region 5 with fail
  generalize w3.alloc (.cells #[.int .i64 0, .int .i64 0, .int .i64 0, .int .i64 0, .int .i64 0, .int .i64 0, .string ⟨#[]⟩, .string ⟨#[]⟩, .string ⟨#[]⟩, .int .i64 0, .int .i64 0, .int .i64 0, .int .i64 0, .int .i64 0, .int .i64 0, .int .u64 0] 27) = w4 at *
  generalize w3.heap.size = A at *
  go_wp2_with fail
  refine (HA.out _).mono ?_; rintro e w5 ⟨rfl, g1⟩
  replace HRK0 := Lib.hid (HRK0.out.new g1)
  clear g1 HA
  go_wp2_with fail
  obtain ⟨z0, hz0⟩ : ∃ z0 : PA × Bool × St, z0 = (noPA, true, some tx) := ⟨_, rfl⟩
  have hZ : aRds l tx = l.foldl RD z0 := by rw [hz0]; rfl
  have HZ0 := Lib.hid hz0
  have HJ : Hid (aJudge (l.foldl RD z0) = Z) := Lib.hid (by rw [← hZ]; exact HJ0.out)
  clear hZ hz0 HJ0
  go_loopw [9, 10, 11] (fun okv isv i w' => ∃ j : Nat, j ≤ l.length ∧ i = .int .i64 j ∧ okv = .bool ((l.take j).foldl RD z0).2.1 ∧ (∃ y : Bool, isv = .bool y) ∧ RK w w' R A r g 27 #[.int .i64 0, .int .i64 0, .int .i64 0, .int .i64 0, .int .i64 0, .int .i64 0, .string ⟨#[]⟩, .string ⟨#[]⟩, .string ⟨#[]⟩, .int .i64 0, .int .i64 0, .int .i64 0, .int .i64 0, .int .i64 0, .int .i64 0, .int .u64 0] (paC ((l.take j).foldl RD z0).1) ((l.take j).foldl RD z0).2.2 ∧ (((l.take j).foldl RD z0).2.2.getD []).length ≤ 100000) (fun _ _ i w' => l.length - (intOf i).toNat)
  case atStart =>
    refine ⟨0, Nat.zero_le _, rfl, ?_⟩
    rw [show (l.take 0).foldl RD z0 = (noPA, true, some tx) from HZ0.out]
    exact ⟨rfl, ⟨_, rfl⟩, HRK0.out, HT0.out⟩
  case round =>
    clear HRK0 HT0
    obtain ⟨j, hj, rfl, rfl, ⟨y0, rfl⟩, hrk, hlen⟩ := hrel
    have hl100 : (l.length : Int) ≤ 100 := by have := HL.out; omega
    by_cases hlt : j < l.length
    · have hix := fun w => idx_str l j hlt w
      have HS : Hid ((l.take (j + 1)).foldl RD z0 = RD ((l.take j).foldl RD z0) l[j]) := Lib.hid (by rw [List.take_succ_eq_append_getElem hlt, List.foldl_append]; rfl)
      have hjl : (j : Int) < l.length := by omega
      have HRK := Lib.hid hrk
      have HLEN := Lib.hid hlen
      clear hrk hlen
      generalize (l.take j).foldl RD z0 = z at *
      generalize l[j] = ch at *
      obtain ⟨⟨⟨h1, h2, h3⟩, ⟨t1, t2, t3⟩, n, o, x, a, q, m, sz, b, gd, v⟩, ok, st⟩ := z
      unfold paC txt at HRK
      dsimp only at HRK HLEN ⊢
      have key : ch = 72 ∨ ch = 84 ∨ ch = 110 ∨ ch = 111 ∨ ch = 116 ∨ ch = 118 ∨ ch = 97 ∨ ch = 78 ∨ ch = 109 ∨ ch = 115 ∨ ch = 83 ∨ ch = 103 ∨ (ch ≠ 72 ∧ ch ≠ 84 ∧ ch ≠ 110 ∧ ch ≠ 111 ∧ ch ≠ 116 ∧ ch ≠ 118 ∧ ch ≠ 97 ∧ ch ≠ 78 ∧ ch ≠ 109 ∧ ch ≠ 115 ∧ ch ≠ 83 ∧ ch ≠ 103) := by
        by_cases e0 : ch = 72
        · simp [e0]
        by_cases e1 : ch = 84
        · simp [e1]
        by_cases e2 : ch = 110
        · simp [e2]
        by_cases e3 : ch = 111
        · simp [e3]
        by_cases e4 : ch = 116
        · simp [e4]
        by_cases e5 : ch = 118
        · simp [e5]
        by_cases e6 : ch = 97
        · simp [e6]
        by_cases e7 : ch = 78
        · simp [e7]
        by_cases e8 : ch = 109
        · simp [e8]
        by_cases e9 : ch = 115
        · simp [e9]
        by_cases e10 : ch = 83
        · simp [e10]
        by_cases e11 : ch = 103
        · simp [e11]
        simp [e0, e1, e2, e3, e4, e5, e6, e7, e8, e9, e10, e11]
      rcases key with rfl | rfl | rfl | rfl | rfl | rfl | rfl | rfl | rfl | rfl | rfl | rfl | ⟨k0, k1, k2, k3, k4, k5, k6, k7, k8, k9, k10, k11⟩
      · as_aux_lemma =>
        have hix : ∀ w : World, (Instr.index 9 (.string ⟨l.toArray⟩) (.int .i64 (j : Int))).run Try.prog w = .ok (.int .u8 72) w := hix
        have HRD := Lib.hid (handle_s r g st wr HRK.out.rdr (by have := HLEN.out; omega) HRK.out.lt HRK.out.gt)
        have HLN := Lib.hid (hRd_len st)
        obtain ⟨⟨⟨⟨d1, d2, d3⟩, y⟩, s'⟩, hp⟩ : ∃ p, hRd st = p := ⟨_, rfl⟩
        have HS2 : Hid ((l.take (j + 1)).foldl RD z0 = (⟨⟨d1, d2, d3⟩, ⟨t1, t2, t3⟩, n, o, x, a, q, m, sz, b, gd, v⟩, ok && y, s')) := Lib.hid (by rw [HS.out]; show aRd1 72 _ = _; rw [show aRd1 72 (⟨⟨h1, h2, h3⟩, ⟨t1, t2, t3⟩, n, o, x, a, q, m, sz, b, gd, v⟩, ok, st) = (⟨(hRd st).1.1, ⟨t1, t2, t3⟩, n, o, x, a, q, m, sz, b, gd, v⟩, ok && (hRd st).1.2, (hRd st).2) from rfl, hp])
        rw [hp] at HRD HLN
        clear HS hp
        dsimp only at HRD HLN
        unfold hnV at HRD
        cases ok
        all_goals
          go_wp2_with fail
          refine HRD.out.mono ?_; rintro e0 w4 ⟨rfl, k2, k3⟩
          replace HRK := Lib.hid (HRK.out.next k2 k3)
          clear k2 k3 HRD
          have c0 := HRK.out.var.cell (i := 0) (x := .int .i64 h1) rfl
          have e0 := HRK.out.var.frozen 0
          have c1 := HRK.out.var.cell (i := 1) (x := .int .i64 h2) rfl
          have e1 := HRK.out.var.frozen 1
          have c2 := HRK.out.var.cell (i := 2) (x := .int .i64 h3) rfl
          have e2 := HRK.out.var.frozen 2
          go_wp2_with fail
          clear c0 c1 c2 e0 e1 e2
          have HRK2 := Lib.hid (((HRK.out.set 0 (.int .i64 d1)).set 1 (.int .i64 d2)).set 2 (.int .i64 d3))
          go_roundw
          case rel =>
            refine ⟨j + 1, by omega, by go_num, ?_⟩
            rw [HS2.out]
            exact ⟨rfl, ⟨_, rfl⟩, HRK2.out, Nat.le_trans HLN.out HLEN.out⟩
          case measure => simp [intOf]; omega
      · as_aux_lemma =>
        have hix : ∀ w : World, (Instr.index 9 (.string ⟨l.toArray⟩) (.int .i64 (j : Int))).run Try.prog w = .ok (.int .u8 84) w := hix
        have HRD := Lib.hid (handle_s r g st wr HRK.out.rdr (by have := HLEN.out; omega) HRK.out.lt HRK.out.gt)
        have HLN := Lib.hid (hRd_len st)
        obtain ⟨⟨⟨⟨d1, d2, d3⟩, y⟩, s'⟩, hp⟩ : ∃ p, hRd st = p := ⟨_, rfl⟩
        have HS2 : Hid ((l.take (j + 1)).foldl RD z0 = (⟨⟨h1, h2, h3⟩, ⟨d1, d2, d3⟩, n, o, x, a, q, m, sz, b, gd, v⟩, ok && y, s')) := Lib.hid (by rw [HS.out]; show aRd1 84 _ = _; rw [show aRd1 84 (⟨⟨h1, h2, h3⟩, ⟨t1, t2, t3⟩, n, o, x, a, q, m, sz, b, gd, v⟩, ok, st) = (⟨⟨h1, h2, h3⟩, (hRd st).1.1, n, o, x, a, q, m, sz, b, gd, v⟩, ok && (hRd st).1.2, (hRd st).2) from rfl, hp])
        rw [hp] at HRD HLN
        clear HS hp
        dsimp only at HRD HLN
        unfold hnV at HRD
        cases ok
        all_goals
          go_wp2_with fail
          refine HRD.out.mono ?_; rintro e0 w4 ⟨rfl, k2, k3⟩
          replace HRK := Lib.hid (HRK.out.next k2 k3)
          clear k2 k3 HRD
          have c0 := HRK.out.var.cell (i := 3) (x := .int .i64 t1) rfl
          have e0 := HRK.out.var.frozen 3
          have c1 := HRK.out.var.cell (i := 4) (x := .int .i64 t2) rfl
          have e1 := HRK.out.var.frozen 4
          have c2 := HRK.out.var.cell (i := 5) (x := .int .i64 t3) rfl
          have e2 := HRK.out.var.frozen 5
          go_wp2_with fail
          clear c0 c1 c2 e0 e1 e2
          have HRK2 := Lib.hid (((HRK.out.set 3 (.int .i64 d1)).set 4 (.int .i64 d2)).set 5 (.int .i64 d3))
          go_roundw
          case rel =>
            refine ⟨j + 1, by omega, by go_num, ?_⟩
            rw [HS2.out]
            exact ⟨rfl, ⟨_, rfl⟩, HRK2.out, Nat.le_trans HLN.out HLEN.out⟩
          case measure => simp [intOf]; omega
      · as_aux_lemma =>
        have hix : ∀ w : World, (Instr.index 9 (.string ⟨l.toArray⟩) (.int .i64 (j : Int))).run Try.prog w = .ok (.int .u8 110) w := hix
        have HRD := Lib.hid (refText_s r g st 255 wr HRK.out.rdr (by have := HLEN.out; omega))
        have HLN := Lib.hid (rText_len 255 st)
        obtain ⟨⟨y, s'⟩, hp⟩ : ∃ p, rText 255 st = p := ⟨_, rfl⟩
        have HS2 : Hid ((l.take (j + 1)).foldl RD z0 = (⟨⟨h1, h2, h3⟩, ⟨t1, t2, t3⟩, y, o, x, a, q, m, sz, b, gd, v⟩, ok, s')) := Lib.hid (by rw [HS.out]; show aRd1 110 _ = _; rw [show aRd1 110 (⟨⟨h1, h2, h3⟩, ⟨t1, t2, t3⟩, n, o, x, a, q, m, sz, b, gd, v⟩, ok, st) = (⟨⟨h1, h2, h3⟩, ⟨t1, t2, t3⟩, (rText 255 st).1, o, x, a, q, m, sz, b, gd, v⟩, ok, (rText 255 st).2) from rfl, hp])
        rw [hp] at HRD HLN
        clear HS hp
        dsimp only at HRD HLN
        go_wp2_with fail
        refine HRD.out.mono ?_; rintro e0 w4 ⟨rfl, k2, k3⟩
        replace HRK := Lib.hid (HRK.out.next k2 k3)
        clear k2 k3 HRD
        have c0 := HRK.out.var.cell (i := 6) (x := .string ⟨n.toArray⟩) rfl
        have e0 := HRK.out.var.frozen 6
        go_wp2_with fail
        clear c0 e0
        have HRK2 := Lib.hid (HRK.out.set 6 (.string ⟨y.toArray⟩))
        go_roundw
        case rel =>
          refine ⟨j + 1, by omega, by go_num, ?_⟩
          rw [HS2.out]
          exact ⟨rfl, ⟨_, rfl⟩, HRK2.out, Nat.le_trans HLN.out HLEN.out⟩
        case measure => simp [intOf]; omega
      · as_aux_lemma =>
        have hix : ∀ w : World, (Instr.index 9 (.string ⟨l.toArray⟩) (.int .i64 (j : Int))).run Try.prog w = .ok (.int .u8 111) w := hix
        have HRD := Lib.hid (refText_s r g st 255 wr HRK.out.rdr (by have := HLEN.out; omega))
        have HLN := Lib.hid (rText_len 255 st)
        obtain ⟨⟨y, s'⟩, hp⟩ : ∃ p, rText 255 st = p := ⟨_, rfl⟩
        have HS2 : Hid ((l.take (j + 1)).foldl RD z0 = (⟨⟨h1, h2, h3⟩, ⟨t1, t2, t3⟩, n, y, x, a, q, m, sz, b, gd, v⟩, ok, s')) := Lib.hid (by rw [HS.out]; show aRd1 111 _ = _; rw [show aRd1 111 (⟨⟨h1, h2, h3⟩, ⟨t1, t2, t3⟩, n, o, x, a, q, m, sz, b, gd, v⟩, ok, st) = (⟨⟨h1, h2, h3⟩, ⟨t1, t2, t3⟩, n, (rText 255 st).1, x, a, q, m, sz, b, gd, v⟩, ok, (rText 255 st).2) from rfl, hp])
        rw [hp] at HRD HLN
        clear HS hp
        dsimp only at HRD HLN
        go_wp2_with fail
        refine HRD.out.mono ?_; rintro e0 w4 ⟨rfl, k2, k3⟩
        replace HRK := Lib.hid (HRK.out.next k2 k3)
        clear k2 k3 HRD
        have c0 := HRK.out.var.cell (i := 7) (x := .string ⟨o.toArray⟩) rfl
        have e0 := HRK.out.var.frozen 7
        go_wp2_with fail
        clear c0 e0
        have HRK2 := Lib.hid (HRK.out.set 7 (.string ⟨y.toArray⟩))
        go_roundw
        case rel =>
          refine ⟨j + 1, by omega, by go_num, ?_⟩
          rw [HS2.out]
          exact ⟨rfl, ⟨_, rfl⟩, HRK2.out, Nat.le_trans HLN.out HLEN.out⟩
        case measure => simp [intOf]; omega
      · as_aux_lemma =>
        have hix : ∀ w : World, (Instr.index 9 (.string ⟨l.toArray⟩) (.int .i64 (j : Int))).run Try.prog w = .ok (.int .u8 116) w := hix
        have HRD := Lib.hid (refText_s r g st 2048 wr HRK.out.rdr (by have := HLEN.out; omega))
        have HLN := Lib.hid (rText_len 2048 st)
        obtain ⟨⟨y, s'⟩, hp⟩ : ∃ p, rText 2048 st = p := ⟨_, rfl⟩
        have HS2 : Hid ((l.take (j + 1)).foldl RD z0 = (⟨⟨h1, h2, h3⟩, ⟨t1, t2, t3⟩, n, o, y, a, q, m, sz, b, gd, v⟩, ok, s')) := Lib.hid (by rw [HS.out]; show aRd1 116 _ = _; rw [show aRd1 116 (⟨⟨h1, h2, h3⟩, ⟨t1, t2, t3⟩, n, o, x, a, q, m, sz, b, gd, v⟩, ok, st) = (⟨⟨h1, h2, h3⟩, ⟨t1, t2, t3⟩, n, o, (rText 2048 st).1, a, q, m, sz, b, gd, v⟩, ok, (rText 2048 st).2) from rfl, hp])
        rw [hp] at HRD HLN
        clear HS hp
        dsimp only at HRD HLN
        go_wp2_with fail
        refine HRD.out.mono ?_; rintro e0 w4 ⟨rfl, k2, k3⟩
        replace HRK := Lib.hid (HRK.out.next k2 k3)
        clear k2 k3 HRD
        have c0 := HRK.out.var.cell (i := 8) (x := .string ⟨x.toArray⟩) rfl
        have e0 := HRK.out.var.frozen 8
        go_wp2_with fail
        clear c0 e0
        have HRK2 := Lib.hid (HRK.out.set 8 (.string ⟨y.toArray⟩))
        go_roundw
        case rel =>
          refine ⟨j + 1, by omega, by go_num, ?_⟩
          rw [HS2.out]
          exact ⟨rfl, ⟨_, rfl⟩, HRK2.out, Nat.le_trans HLN.out HLEN.out⟩
        case measure => simp [intOf]; omega
      · as_aux_lemma =>
        have hix : ∀ w : World, (Instr.index 9 (.string ⟨l.toArray⟩) (.int .i64 (j : Int))).run Try.prog w = .ok (.int .u8 118) w := hix
        have HRD := Lib.hid (refLong_s r g st wr HRK.out.rdr)
        have HLN := Lib.hid (rLong_len st)
        obtain ⟨⟨y, s'⟩, hp⟩ : ∃ p, rLong st = p := ⟨_, rfl⟩
        have HS2 : Hid ((l.take (j + 1)).foldl RD z0 = (⟨⟨h1, h2, h3⟩, ⟨t1, t2, t3⟩, n, o, x, a, q, m, sz, b, gd, y⟩, ok, s')) := Lib.hid (by rw [HS.out]; show aRd1 118 _ = _; rw [show aRd1 118 (⟨⟨h1, h2, h3⟩, ⟨t1, t2, t3⟩, n, o, x, a, q, m, sz, b, gd, v⟩, ok, st) = (⟨⟨h1, h2, h3⟩, ⟨t1, t2, t3⟩, n, o, x, a, q, m, sz, b, gd, (rLong st).1⟩, ok, (rLong st).2) from rfl, hp])
        rw [hp] at HRD HLN
        clear HS hp
        dsimp only at HRD HLN
        go_wp2_with fail
        refine HRD.out.mono ?_; rintro e0 w4 ⟨rfl, k2, k3⟩
        replace HRK := Lib.hid (HRK.out.next k2 k3)
        clear k2 k3 HRD
        have c0 := HRK.out.var.cell (i := 15) (x := .int .u64 v) rfl
        have e0 := HRK.out.var.frozen 15
        go_wp2_with fail
        clear c0 e0
        have HRK2 := Lib.hid (HRK.out.set 15 (.int .u64 y))
        go_roundw
        case rel =>
          refine ⟨j + 1, by omega, by go_num, ?_⟩
          rw [HS2.out]
          exact ⟨rfl, ⟨_, rfl⟩, HRK2.out, Nat.le_trans HLN.out HLEN.out⟩
        case measure => simp [intOf]; omega
      · as_aux_lemma =>
        have hix : ∀ w : World, (Instr.index 9 (.string ⟨l.toArray⟩) (.int .i64 (j : Int))).run Try.prog w = .ok (.int .u8 97) w := hix
        have HRD := Lib.hid (refInt_s r g st wr HRK.out.rdr)
        have HLN := Lib.hid (rInt_len st)
        obtain ⟨⟨y, s'⟩, hp⟩ : ∃ p, rInt st = p := ⟨_, rfl⟩
        have HS2 : Hid ((l.take (j + 1)).foldl RD z0 = (⟨⟨h1, h2, h3⟩, ⟨t1, t2, t3⟩, n, o, x, y, q, m, sz, b, gd, v⟩, ok, s')) := Lib.hid (by rw [HS.out]; show aRd1 97 _ = _; rw [show aRd1 97 (⟨⟨h1, h2, h3⟩, ⟨t1, t2, t3⟩, n, o, x, a, q, m, sz, b, gd, v⟩, ok, st) = (⟨⟨h1, h2, h3⟩, ⟨t1, t2, t3⟩, n, o, x, (rInt st).1, q, m, sz, b, gd, v⟩, ok, (rInt st).2) from rfl, hp])
        rw [hp] at HRD HLN
        clear HS hp
        dsimp only at HRD HLN
        go_wp2_with fail
        refine HRD.out.mono ?_; rintro e0 w4 ⟨rfl, k2, k3⟩
        replace HRK := Lib.hid (HRK.out.next k2 k3)
        clear k2 k3 HRD
        have c0 := HRK.out.var.cell (i := 9) (x := .int .i64 a) rfl
        have e0 := HRK.out.var.frozen 9
        go_wp2_with fail
        clear c0 e0
        have HRK2 := Lib.hid (HRK.out.set 9 (.int .i64 y))
        go_roundw
        case rel =>
          refine ⟨j + 1, by omega, by go_num, ?_⟩
          rw [HS2.out]
          exact ⟨rfl, ⟨_, rfl⟩, HRK2.out, Nat.le_trans HLN.out HLEN.out⟩
        case measure => simp [intOf]; omega
      · as_aux_lemma =>
        have hix : ∀ w : World, (Instr.index 9 (.string ⟨l.toArray⟩) (.int .i64 (j : Int))).run Try.prog w = .ok (.int .u8 78) w := hix
        have HRD := Lib.hid (refInt_s r g st wr HRK.out.rdr)
        have HLN := Lib.hid (rInt_len st)
        obtain ⟨⟨y, s'⟩, hp⟩ : ∃ p, rInt st = p := ⟨_, rfl⟩
        have HS2 : Hid ((l.take (j + 1)).foldl RD z0 = (⟨⟨h1, h2, h3⟩, ⟨t1, t2, t3⟩, n, o, x, a, y, m, sz, b, gd, v⟩, ok, s')) := Lib.hid (by rw [HS.out]; show aRd1 78 _ = _; rw [show aRd1 78 (⟨⟨h1, h2, h3⟩, ⟨t1, t2, t3⟩, n, o, x, a, q, m, sz, b, gd, v⟩, ok, st) = (⟨⟨h1, h2, h3⟩, ⟨t1, t2, t3⟩, n, o, x, a, (rInt st).1, m, sz, b, gd, v⟩, ok, (rInt st).2) from rfl, hp])
        rw [hp] at HRD HLN
        clear HS hp
        dsimp only at HRD HLN
        go_wp2_with fail
        refine HRD.out.mono ?_; rintro e0 w4 ⟨rfl, k2, k3⟩
        replace HRK := Lib.hid (HRK.out.next k2 k3)
        clear k2 k3 HRD
        have c0 := HRK.out.var.cell (i := 10) (x := .int .i64 q) rfl
        have e0 := HRK.out.var.frozen 10
        go_wp2_with fail
        clear c0 e0
        have HRK2 := Lib.hid (HRK.out.set 10 (.int .i64 y))
        go_roundw
        case rel =>
          refine ⟨j + 1, by omega, by go_num, ?_⟩
          rw [HS2.out]
          exact ⟨rfl, ⟨_, rfl⟩, HRK2.out, Nat.le_trans HLN.out HLEN.out⟩
        case measure => simp [intOf]; omega
      · as_aux_lemma =>
        have hix : ∀ w : World, (Instr.index 9 (.string ⟨l.toArray⟩) (.int .i64 (j : Int))).run Try.prog w = .ok (.int .u8 109) w := hix
        have HRD := Lib.hid (refInt_s r g st wr HRK.out.rdr)
        have HLN := Lib.hid (rInt_len st)
        obtain ⟨⟨y, s'⟩, hp⟩ : ∃ p, rInt st = p := ⟨_, rfl⟩
        have HS2 : Hid ((l.take (j + 1)).foldl RD z0 = (⟨⟨h1, h2, h3⟩, ⟨t1, t2, t3⟩, n, o, x, a, q, y, sz, b, gd, v⟩, ok, s')) := Lib.hid (by rw [HS.out]; show aRd1 109 _ = _; rw [show aRd1 109 (⟨⟨h1, h2, h3⟩, ⟨t1, t2, t3⟩, n, o, x, a, q, m, sz, b, gd, v⟩, ok, st) = (⟨⟨h1, h2, h3⟩, ⟨t1, t2, t3⟩, n, o, x, a, q, (rInt st).1, sz, b, gd, v⟩, ok, (rInt st).2) from rfl, hp])
        rw [hp] at HRD HLN
        clear HS hp
        dsimp only at HRD HLN
        go_wp2_with fail
        refine HRD.out.mono ?_; rintro e0 w4 ⟨rfl, k2, k3⟩
        replace HRK := Lib.hid (HRK.out.next k2 k3)
        clear k2 k3 HRD
        have c0 := HRK.out.var.cell (i := 11) (x := .int .i64 m) rfl
        have e0 := HRK.out.var.frozen 11
        go_wp2_with fail
        clear c0 e0
        have HRK2 := Lib.hid (HRK.out.set 11 (.int .i64 y))
        go_roundw
        case rel =>
          refine ⟨j + 1, by omega, by go_num, ?_⟩
          rw [HS2.out]
          exact ⟨rfl, ⟨_, rfl⟩, HRK2.out, Nat.le_trans HLN.out HLEN.out⟩
        case measure => simp [intOf]; omega
      · as_aux_lemma =>
        have hix : ∀ w : World, (Instr.index 9 (.string ⟨l.toArray⟩) (.int .i64 (j : Int))).run Try.prog w = .ok (.int .u8 115) w := hix
        have HRD := Lib.hid (refInt_s r g st wr HRK.out.rdr)
        have HLN := Lib.hid (rInt_len st)
        obtain ⟨⟨y, s'⟩, hp⟩ : ∃ p, rInt st = p := ⟨_, rfl⟩
        have HS2 : Hid ((l.take (j + 1)).foldl RD z0 = (⟨⟨h1, h2, h3⟩, ⟨t1, t2, t3⟩, n, o, x, a, q, m, y, b, gd, v⟩, ok, s')) := Lib.hid (by rw [HS.out]; show aRd1 115 _ = _; rw [show aRd1 115 (⟨⟨h1, h2, h3⟩, ⟨t1, t2, t3⟩, n, o, x, a, q, m, sz, b, gd, v⟩, ok, st) = (⟨⟨h1, h2, h3⟩, ⟨t1, t2, t3⟩, n, o, x, a, q, m, (rInt st).1, b, gd, v⟩, ok, (rInt st).2) from rfl, hp])
        rw [hp] at HRD HLN
        clear HS hp
        dsimp only at HRD HLN
        go_wp2_with fail
        refine HRD.out.mono ?_; rintro e0 w4 ⟨rfl, k2, k3⟩
        replace HRK := Lib.hid (HRK.out.next k2 k3)
        clear k2 k3 HRD
        have c0 := HRK.out.var.cell (i := 12) (x := .int .i64 sz) rfl
        have e0 := HRK.out.var.frozen 12
        go_wp2_with fail
        clear c0 e0
        have HRK2 := Lib.hid (HRK.out.set 12 (.int .i64 y))
        go_roundw
        case rel =>
          refine ⟨j + 1, by omega, by go_num, ?_⟩
          rw [HS2.out]
          exact ⟨rfl, ⟨_, rfl⟩, HRK2.out, Nat.le_trans HLN.out HLEN.out⟩
        case measure => simp [intOf]; omega
      · as_aux_lemma =>
        have hix : ∀ w : World, (Instr.index 9 (.string ⟨l.toArray⟩) (.int .i64 (j : Int))).run Try.prog w = .ok (.int .u8 83) w := hix
        have HRD := Lib.hid (refInt_s r g st wr HRK.out.rdr)
        have HLN := Lib.hid (rInt_len st)
        obtain ⟨⟨y, s'⟩, hp⟩ : ∃ p, rInt st = p := ⟨_, rfl⟩
        have HS2 : Hid ((l.take (j + 1)).foldl RD z0 = (⟨⟨h1, h2, h3⟩, ⟨t1, t2, t3⟩, n, o, x, a, q, m, sz, y, gd, v⟩, ok, s')) := Lib.hid (by rw [HS.out]; show aRd1 83 _ = _; rw [show aRd1 83 (⟨⟨h1, h2, h3⟩, ⟨t1, t2, t3⟩, n, o, x, a, q, m, sz, b, gd, v⟩, ok, st) = (⟨⟨h1, h2, h3⟩, ⟨t1, t2, t3⟩, n, o, x, a, q, m, sz, (rInt st).1, gd, v⟩, ok, (rInt st).2) from rfl, hp])
        rw [hp] at HRD HLN
        clear HS hp
        dsimp only at HRD HLN
        go_wp2_with fail
        refine HRD.out.mono ?_; rintro e0 w4 ⟨rfl, k2, k3⟩
        replace HRK := Lib.hid (HRK.out.next k2 k3)
        clear k2 k3 HRD
        have c0 := HRK.out.var.cell (i := 13) (x := .int .i64 b) rfl
        have e0 := HRK.out.var.frozen 13
        go_wp2_with fail
        clear c0 e0
        have HRK2 := Lib.hid (HRK.out.set 13 (.int .i64 y))
        go_roundw
        case rel =>
          refine ⟨j + 1, by omega, by go_num, ?_⟩
          rw [HS2.out]
          exact ⟨rfl, ⟨_, rfl⟩, HRK2.out, Nat.le_trans HLN.out HLEN.out⟩
        case measure => simp [intOf]; omega
      · as_aux_lemma =>
        have hix : ∀ w : World, (Instr.index 9 (.string ⟨l.toArray⟩) (.int .i64 (j : Int))).run Try.prog w = .ok (.int .u8 103) w := hix
        have HRD := Lib.hid (refInt_s r g st wr HRK.out.rdr)
        have HLN := Lib.hid (rInt_len st)
        obtain ⟨⟨y, s'⟩, hp⟩ : ∃ p, rInt st = p := ⟨_, rfl⟩
        have HS2 : Hid ((l.take (j + 1)).foldl RD z0 = (⟨⟨h1, h2, h3⟩, ⟨t1, t2, t3⟩, n, o, x, a, q, m, sz, b, y, v⟩, ok, s')) := Lib.hid (by rw [HS.out]; show aRd1 103 _ = _; rw [show aRd1 103 (⟨⟨h1, h2, h3⟩, ⟨t1, t2, t3⟩, n, o, x, a, q, m, sz, b, gd, v⟩, ok, st) = (⟨⟨h1, h2, h3⟩, ⟨t1, t2, t3⟩, n, o, x, a, q, m, sz, b, (rInt st).1, v⟩, ok, (rInt st).2) from rfl, hp])
        rw [hp] at HRD HLN
        clear HS hp
        dsimp only at HRD HLN
        go_wp2_with fail
        refine HRD.out.mono ?_; rintro e0 w4 ⟨rfl, k2, k3⟩
        replace HRK := Lib.hid (HRK.out.next k2 k3)
        clear k2 k3 HRD
        have c0 := HRK.out.var.cell (i := 14) (x := .int .i64 gd) rfl
        have e0 := HRK.out.var.frozen 14
        go_wp2_with fail
        clear c0 e0
        have HRK2 := Lib.hid (HRK.out.set 14 (.int .i64 y))
        go_roundw
        case rel =>
          refine ⟨j + 1, by omega, by go_num, ?_⟩
          rw [HS2.out]
          exact ⟨rfl, ⟨_, rfl⟩, HRK2.out, Nat.le_trans HLN.out HLEN.out⟩
        case measure => simp [intOf]; omega
      · have HS2 : Hid ((l.take (j + 1)).foldl RD z0 = (⟨⟨h1, h2, h3⟩, ⟨t1, t2, t3⟩, n, o, x, a, q, m, sz, b, gd, v⟩, ok, st)) := Lib.hid (by rw [HS.out]; show aRd1 ch _ = _; unfold aRd1; rw [if_neg k0, if_neg k1, if_neg k2, if_neg k3, if_neg k4, if_neg k5, if_neg k6, if_neg k7, if_neg k8, if_neg k9, if_neg k10, if_neg k11])
        have d : ∀ y : UInt8, ch ≠ y → ¬ ((ch.toNat : Int) = (y.toNat : Int)) := fun y h e => h (UInt8.toNat_inj.1 (by omega))
        have k0 : ¬ ((ch.toNat : Int) = 72) := d 72 k0
        have k1 : ¬ ((ch.toNat : Int) = 84) := d 84 k1
        have k2 : ¬ ((ch.toNat : Int) = 110) := d 110 k2
        have k3 : ¬ ((ch.toNat : Int) = 111) := d 111 k3
        have k4 : ¬ ((ch.toNat : Int) = 116) := d 116 k4
        have k5 : ¬ ((ch.toNat : Int) = 118) := d 118 k5
        have k6 : ¬ ((ch.toNat : Int) = 97) := d 97 k6
        have k7 : ¬ ((ch.toNat : Int) = 78) := d 78 k7
        have k8 : ¬ ((ch.toNat : Int) = 109) := d 109 k8
        have k9 : ¬ ((ch.toNat : Int) = 115) := d 115 k9
        have k10 : ¬ ((ch.toNat : Int) = 83) := d 83 k10
        have k11 : ¬ ((ch.toNat : Int) = 103) := d 103 k11
        clear d HS
        go_wp2_with fail
        go_roundw
        case rel =>
          refine ⟨j + 1, by omega, by go_num, ?_⟩
          rw [HS2.out]
          exact ⟨rfl, ⟨_, rfl⟩, HRK.out, HLEN.out⟩
        case measure => simp [intOf]; omega
    · obtain rfl : j = l.length := by omega
      rw [List.take_length] at *
      have HRK := Lib.hid hrk
      clear hrk hlen hlt hj
      generalize l.foldl RD z0 = z at *
      obtain ⟨⟨⟨h1, h2, h3⟩, ⟨t1, t2, t3⟩, n, o, x, a, q, m, sz, b, gd, v⟩, ok, st⟩ := z
      unfold paC txt at HRK
      dsimp only at HRK
      have HDN := Lib.hid (refDone_s r g st wr HRK.out.rdr)
      obtain ⟨dn, hdd⟩ : ∃ dn, rDone st = dn := ⟨_, rfl⟩
      have HDE := Lib.hid hdd
      rw [hdd] at HDN
      clear hdd
      cases ok
      · have HZ : Hid ((noPA, (4 : Int)) = Z) := Lib.hid (by rw [← HJ.out]; exact (aJudge_no rfl).symm)
        as_aux_lemma =>
          go_upto_region 39 with fail
          go_wp2_with (refine wpList_store_row rfl 27 (.tmp 4) (.tmp 115) rfl R #[.int .i64 0, .int .i64 0, .int .i64 0, .int .i64 0, .int .i64 0, .int .i64 0, .string ⟨#[]⟩, .string ⟨#[]⟩, .string ⟨#[]⟩, .int .i64 0, .int .i64 0, .int .i64 0, .int .i64 0, .int .i64 0, .int .i64 0, .int .u64 0] rfl rfl 27 #[.int .i64 0, .int .i64 0, .int .i64 0, .int .i64 0, .int .i64 0, .int .i64 0, .string ⟨#[]⟩, .string ⟨#[]⟩, .string ⟨#[]⟩, .int .i64 0, .int .i64 0, .int .i64 0, .int .i64 0, .int .i64 0, .int .i64 0, .int .u64 0] HRK.out.res (by kernel_rfl) (by kernel_rfl) (by kernel_rfl) ?_)
          have hb := HRK.out.res.row #[.int .i64 0, .int .i64 0, .int .i64 0, .int .i64 0, .int .i64 0, .int .i64 0, .string ⟨#[]⟩, .string ⟨#[]⟩, .string ⟨#[]⟩, .int .i64 0, .int .i64 0, .int .i64 0, .int .i64 0, .int .i64 0, .int .i64 0, .int .u64 0]
          have hg := grown_own HRK.out.grown (setRow_grown wr R #[.int .i64 0, .int .i64 0, .int .i64 0, .int .i64 0, .int .i64 0, .int .i64 0, .string ⟨#[]⟩, .string ⟨#[]⟩, .string ⟨#[]⟩, .int .i64 0, .int .i64 0, .int .i64 0, .int .i64 0, .int .i64 0, .int .i64 0, .int .u64 0]) (fun n hn => by cases hn; exact HRK.out.le)
          generalize World.setRow _ _ _ = wE at *
          have k0 := hb.cell (i := 0) (x := .int .i64 0) rfl
          have k1 := hb.cell (i := 1) (x := .int .i64 0) rfl
          have k2 := hb.cell (i := 2) (x := .int .i64 0) rfl
          have k3 := hb.cell (i := 3) (x := .int .i64 0) rfl
          have k4 := hb.cell (i := 4) (x := .int .i64 0) rfl
          have k5 := hb.cell (i := 5) (x := .int .i64 0) rfl
          have k6 := hb.cell (i := 6) (x := .string ⟨#[]⟩) rfl
          have k7 := hb.cell (i := 7) (x := .string ⟨#[]⟩) rfl
          have k8 := hb.cell (i := 8) (x := .string ⟨#[]⟩) rfl
          have k9 := hb.cell (i := 9) (x := .int .i64 0) rfl
          have k10 := hb.cell (i := 10) (x := .int .i64 0) rfl
          have k11 := hb.cell (i := 11) (x := .int .i64 0) rfl
          have k12 := hb.cell (i := 12) (x := .int .i64 0) rfl
          have k13 := hb.cell (i := 13) (x := .int .i64 0) rfl
          have k14 := hb.cell (i := 14) (x := .int .i64 0) rfl
          have k15 := hb.cell (i := 15) (x := .int .u64 0) rfl
          exact bodyPost_ret (v := .tuple #[paV noPA, .int .i64 4]) (by simp [results, Try.results23, go_sem, paV, paC, txt, noPA, noHn, k0, k1, k2, k3, k4, k5, k6, k7, k8, k9, k10, k11, k12, k13, k14, k15]) rfl ⟨by rw [← HZ.out], hg⟩
      · cases hdn : dn
        · have HZ : Hid ((noPA, (4 : Int)) = Z) := Lib.hid (by rw [← HJ.out]; exact (aJudge_no (z := (⟨⟨h1, h2, h3⟩, ⟨t1, t2, t3⟩, n, o, x, a, q, m, sz, b, gd, v⟩, true, st)) (by show (true && rDone st) = false; rw [HDE.out, hdn]; rfl)).symm)
          subst hdn
          go_wp2_with fail
          refine HDN.out.mono ?_; rintro e0 w9 ⟨rfl, rfl⟩
          as_aux_lemma =>
            go_upto_region 39 with fail
            go_wp2_with (refine wpList_store_row rfl 27 (.tmp 4) (.tmp 115) rfl R #[.int .i64 0, .int .i64 0, .int .i64 0, .int .i64 0, .int .i64 0, .int .i64 0, .string ⟨#[]⟩, .string ⟨#[]⟩, .string ⟨#[]⟩, .int .i64 0, .int .i64 0, .int .i64 0, .int .i64 0, .int .i64 0, .int .i64 0, .int .u64 0] rfl rfl 27 #[.int .i64 0, .int .i64 0, .int .i64 0, .int .i64 0, .int .i64 0, .int .i64 0, .string ⟨#[]⟩, .string ⟨#[]⟩, .string ⟨#[]⟩, .int .i64 0, .int .i64 0, .int .i64 0, .int .i64 0, .int .i64 0, .int .i64 0, .int .u64 0] HRK.out.res (by kernel_rfl) (by kernel_rfl) (by kernel_rfl) ?_)
            have hb := HRK.out.res.row #[.int .i64 0, .int .i64 0, .int .i64 0, .int .i64 0, .int .i64 0, .int .i64 0, .string ⟨#[]⟩, .string ⟨#[]⟩, .string ⟨#[]⟩, .int .i64 0, .int .i64 0, .int .i64 0, .int .i64 0, .int .i64 0, .int .i64 0, .int .u64 0]
            have hg := grown_own HRK.out.grown (setRow_grown wr R #[.int .i64 0, .int .i64 0, .int .i64 0, .int .i64 0, .int .i64 0, .int .i64 0, .string ⟨#[]⟩, .string ⟨#[]⟩, .string ⟨#[]⟩, .int .i64 0, .int .i64 0, .int .i64 0, .int .i64 0, .int .i64 0, .int .i64 0, .int .u64 0]) (fun n hn => by cases hn; exact HRK.out.le)
            generalize World.setRow _ _ _ = wE at *
            have k0 := hb.cell (i := 0) (x := .int .i64 0) rfl
            have k1 := hb.cell (i := 1) (x := .int .i64 0) rfl
            have k2 := hb.cell (i := 2) (x := .int .i64 0) rfl
            have k3 := hb.cell (i := 3) (x := .int .i64 0) rfl
            have k4 := hb.cell (i := 4) (x := .int .i64 0) rfl
            have k5 := hb.cell (i := 5) (x := .int .i64 0) rfl
            have k6 := hb.cell (i := 6) (x := .string ⟨#[]⟩) rfl
            have k7 := hb.cell (i := 7) (x := .string ⟨#[]⟩) rfl
            have k8 := hb.cell (i := 8) (x := .string ⟨#[]⟩) rfl
            have k9 := hb.cell (i := 9) (x := .int .i64 0) rfl
            have k10 := hb.cell (i := 10) (x := .int .i64 0) rfl
            have k11 := hb.cell (i := 11) (x := .int .i64 0) rfl
            have k12 := hb.cell (i := 12) (x := .int .i64 0) rfl
            have k13 := hb.cell (i := 13) (x := .int .i64 0) rfl
            have k14 := hb.cell (i := 14) (x := .int .i64 0) rfl
            have k15 := hb.cell (i := 15) (x := .int .u64 0) rfl
            exact bodyPost_ret (v := .tuple #[paV noPA, .int .i64 4]) (by simp [results, Try.results23, go_sem, paV, paC, txt, noPA, noHn, k0, k1, k2, k3, k4, k5, k6, k7, k8, k9, k10, k11, k12, k13, k14, k15]) rfl ⟨by rw [← HZ.out], hg⟩
        · have HZ : Hid ((⟨⟨h1, h2, h3⟩, ⟨t1, t2, t3⟩, n, o, x, a, q, m, sz, b, gd, v⟩, (0 : Int)) = Z) := Lib.hid (by rw [← HJ.out]; exact (aJudge_yes (z := (⟨⟨h1, h2, h3⟩, ⟨t1, t2, t3⟩, n, o, x, a, q, m, sz, b, gd, v⟩, true, st)) (by show (true && rDone st) = true; rw [HDE.out, hdn]; rfl)).symm)
          subst hdn
          go_wp2_with fail
          refine HDN.out.mono ?_; rintro e0 w9 ⟨rfl, rfl⟩
          as_aux_lemma =>
            have c0 := HRK.out.var.cell (i := 0) (x := .int .i64 h1) rfl
            have c1 := HRK.out.var.cell (i := 1) (x := .int .i64 h2) rfl
            have c2 := HRK.out.var.cell (i := 2) (x := .int .i64 h3) rfl
            have c3 := HRK.out.var.cell (i := 3) (x := .int .i64 t1) rfl
            have c4 := HRK.out.var.cell (i := 4) (x := .int .i64 t2) rfl
            have c5 := HRK.out.var.cell (i := 5) (x := .int .i64 t3) rfl
            have c6 := HRK.out.var.cell (i := 6) (x := .string ⟨n.toArray⟩) rfl
            have c7 := HRK.out.var.cell (i := 7) (x := .string ⟨o.toArray⟩) rfl
            have c8 := HRK.out.var.cell (i := 8) (x := .string ⟨x.toArray⟩) rfl
            have c9 := HRK.out.var.cell (i := 9) (x := .int .i64 a) rfl
            have c10 := HRK.out.var.cell (i := 10) (x := .int .i64 q) rfl
            have c11 := HRK.out.var.cell (i := 11) (x := .int .i64 m) rfl
            have c12 := HRK.out.var.cell (i := 12) (x := .int .i64 sz) rfl
            have c13 := HRK.out.var.cell (i := 13) (x := .int .i64 b) rfl
            have c14 := HRK.out.var.cell (i := 14) (x := .int .i64 gd) rfl
            have c15 := HRK.out.var.cell (i := 15) (x := .int .u64 v) rfl
            go_upto_region 40 with fail
            go_wp2_with (refine wpList_store_row rfl 27 (.tmp 4) (.tmp 116) rfl R #[.int .i64 h1, .int .i64 h2, .int .i64 h3, .int .i64 t1, .int .i64 t2, .int .i64 t3, .string ⟨n.toArray⟩, .string ⟨o.toArray⟩, .string ⟨x.toArray⟩, .int .i64 a, .int .i64 q, .int .i64 m, .int .i64 sz, .int .i64 b, .int .i64 gd, .int .u64 v] rfl rfl 27 #[.int .i64 0, .int .i64 0, .int .i64 0, .int .i64 0, .int .i64 0, .int .i64 0, .string ⟨#[]⟩, .string ⟨#[]⟩, .string ⟨#[]⟩, .int .i64 0, .int .i64 0, .int .i64 0, .int .i64 0, .int .i64 0, .int .i64 0, .int .u64 0] HRK.out.res (by kernel_rfl) (by kernel_rfl) (by kernel_rfl) ?_)
            have hb := HRK.out.res.row #[.int .i64 h1, .int .i64 h2, .int .i64 h3, .int .i64 t1, .int .i64 t2, .int .i64 t3, .string ⟨n.toArray⟩, .string ⟨o.toArray⟩, .string ⟨x.toArray⟩, .int .i64 a, .int .i64 q, .int .i64 m, .int .i64 sz, .int .i64 b, .int .i64 gd, .int .u64 v]
            have hg := grown_own HRK.out.grown (setRow_grown wr R #[.int .i64 h1, .int .i64 h2, .int .i64 h3, .int .i64 t1, .int .i64 t2, .int .i64 t3, .string ⟨n.toArray⟩, .string ⟨o.toArray⟩, .string ⟨x.toArray⟩, .int .i64 a, .int .i64 q, .int .i64 m, .int .i64 sz, .int .i64 b, .int .i64 gd, .int .u64 v]) (fun n hn => by cases hn; exact HRK.out.le)
            clear c0 c1 c2 c3 c4 c5 c6 c7 c8 c9 c10 c11 c12 c13 c14 c15
            generalize World.setRow _ _ _ = wE at *
            have k0 := hb.cell (i := 0) (x := .int .i64 h1) rfl
            have k1 := hb.cell (i := 1) (x := .int .i64 h2) rfl
            have k2 := hb.cell (i := 2) (x := .int .i64 h3) rfl
            have k3 := hb.cell (i := 3) (x := .int .i64 t1) rfl
            have k4 := hb.cell (i := 4) (x := .int .i64 t2) rfl
            have k5 := hb.cell (i := 5) (x := .int .i64 t3) rfl
            have k6 := hb.cell (i := 6) (x := .string ⟨n.toArray⟩) rfl
            have k7 := hb.cell (i := 7) (x := .string ⟨o.toArray⟩) rfl
            have k8 := hb.cell (i := 8) (x := .string ⟨x.toArray⟩) rfl
            have k9 := hb.cell (i := 9) (x := .int .i64 a) rfl
            have k10 := hb.cell (i := 10) (x := .int .i64 q) rfl
            have k11 := hb.cell (i := 11) (x := .int .i64 m) rfl
            have k12 := hb.cell (i := 12) (x := .int .i64 sz) rfl
            have k13 := hb.cell (i := 13) (x := .int .i64 b) rfl
            have k14 := hb.cell (i := 14) (x := .int .i64 gd) rfl
            have k15 := hb.cell (i := 15) (x := .int .u64 v) rfl
            exact bodyPost_ret (v := .tuple #[paV ⟨⟨h1, h2, h3⟩, ⟨t1, t2, t3⟩, n, o, x, a, q, m, sz, b, gd, v⟩, .int .i64 0]) (by simp [results, Try.results23, go_sem, paV, paC, txt, k0, k1, k2, k3, k4, k5, k6, k7, k8, k9, k10, k11, k12, k13, k14, k15]) rfl ⟨by rw [← HZ.out], hg⟩

theorem rRead_any (k : Int) (l : List UInt8) (w : World) (hl : l.length ≤ 100000) : Calls Try.prog 23 #[.int .i64 k, .string ⟨l.toArray⟩] w (PT w (aRead k l)) := by
  unfold aRead
  by_cases hk : 0 ≤ k ∧ k < 19
  · rw [if_pos hk]
    obtain ⟨j, rfl⟩ := Int.eq_ofNat_of_zero_le hk.1
    rw [Int.toNat_natCast]
    exact rRead_on j (by omega) l w hl
  · rw [if_neg hk]; exact rRead_off k l w (by omega)
end Go.Proofs.Ytpklgcinijlmmaa
