/- Arguments as words, the code: Read. -/
import Derived.Test.YtpklgcinijlmmaaArcD
import Derived.Test.YtpklgcinijlmmaaArgP
namespace Go.Proofs.Ytpklgcinijlmmaa
open Go.RowKit

theorem RD_ok {c : UInt8} (hc : isL c) (p : PA) (ok : Bool) (s : St) : RD (p, ok, s) c = ((RD (p, true, s) c).1, ok && (RD (p, true, s) c).2.1, (RD (p, true, s) c).2.2) := by
  rcases hc with rfl | rfl | rfl | rfl | rfl | rfl | rfl | rfl | rfl | rfl | rfl | rfl
  · rfl
  · rfl
  · show (_, ok, _) = (_, ok && true, _)
    rw [Bool.and_true]; rfl
  · show (_, ok, _) = (_, ok && true, _)
    rw [Bool.and_true]; rfl
  · show (_, ok, _) = (_, ok && true, _)
    rw [Bool.and_true]; rfl
  · show (_, ok, _) = (_, ok && true, _)
    rw [Bool.and_true]; rfl
  · show (_, ok, _) = (_, ok && true, _)
    rw [Bool.and_true]; rfl
  · show (_, ok, _) = (_, ok && true, _)
    rw [Bool.and_true]; rfl
  · show (_, ok, _) = (_, ok && true, _)
    rw [Bool.and_true]; rfl
  · show (_, ok, _) = (_, ok && true, _)
    rw [Bool.and_true]; rfl
  · show (_, ok, _) = (_, ok && true, _)
    rw [Bool.and_true]; rfl
  · show (_, ok, _) = (_, ok && true, _)
    rw [Bool.and_true]; rfl
theorem RD_le {c : UInt8} (hc : isL c) (p : PA) (ok : Bool) (s : St) : ((RD (p, ok, s) c).2.2.getD []).length ≤ (s.getD []).length := by
  rcases hc with rfl | rfl | rfl | rfl | rfl | rfl | rfl | rfl | rfl | rfl | rfl | rfl
  · exact hRd_len s
  · exact hRd_len s
  · exact rText_len _ s
  · exact rText_len _ s
  · exact rText_len _ s
  · exact rLong_len s
  · exact rInt_len s
  · exact rInt_len s
  · exact rInt_len s
  · exact rInt_len s
  · exact rInt_len s
  · exact rInt_len s

theorem read_arg {w : World} {R r : Nat} {g : Option Nat} {p : PA} {s : St} {c : UInt8} (hc : isL c) (hb : Blk w R 27 (paC p)) (hr : RdrS w r g s) (hR : R ≠ r) (hg : g ≠ some R) (hlt : r < w.heap.size) (hl : (s.getD []).length ≤ 1000000) :
    Calls Try.prog 32 #[.pointer (some ⟨r, 0, none⟩), argV R c] w (RF w R r g 27 (paC (RD (p, true, s) c).1) (RD (p, true, s) c).2.2 (RD (p, true, s) c).2.1) := by
  rcases hc with rfl | rfl | rfl | rfl | rfl | rfl | rfl | rfl | rfl | rfl | rfl | rfl
  · exact read_handle (i := 0) hb rfl rfl rfl hr hR hg hl
  · exact read_handle (i := 3) hb rfl rfl rfl hr hR hg hl
  · exact read_text (i := 6) 255 hb rfl hr hR hg hlt
  · exact read_text (i := 7) 255 hb rfl hr hR hg hlt
  · exact read_text (i := 8) 2048 hb rfl hr hR hg hlt
  · exact read_long (i := 15) hb rfl hr hR hg
  · exact read_int (i := 9) hb rfl hr hR hg
  · exact read_int (i := 10) hb rfl hr hR hg
  · exact read_int (i := 11) hb rfl hr hR hg
  · exact read_int (i := 12) hb rfl hr hR hg
  · exact read_int (i := 13) hb rfl hr hR hg
  · exact read_int (i := 14) hb rfl hr hR hg

/-- The blocks of Read: the arguments R, the variables of the reader and of 'may' B and C, the reader r. -/
def Sep (W : World) (R B C r : Nat) (g : Option Nat) : Prop :=
  (R ≠ r ∧ g ≠ some R ∧ B ≠ R ∧ B ≠ r ∧ B ≠ C ∧ C ≠ R ∧ C ≠ r ∧ g ≠ some C) ∧ R < W.heap.size ∧ B < W.heap.size ∧ C < W.heap.size ∧ r < W.heap.size
def zRd (q tx : List UInt8) : PA × Bool × St := q.foldl RD (noPA, true, some tx)
def IR (W : World) (R B C r : Nat) (g : Option Nat) (tx : List UInt8) (L : Nat) (q : List UInt8) (w : World) : Prop :=
  Blk w R 27 (paC (zRd q tx).1) ∧ Blk w B 66 #[.pointer (some ⟨r, 0, none⟩)] ∧ Blk w C 4 #[.bool (zRd q tx).2.1] ∧ RdrS w r g (zRd q tx).2.2 ∧ ((zRd q tx).2.2.getD []).length ≤ 100000 ∧ KeepB (fun k => k = R ∨ k = r ∨ k = C) W w ∧ W.heap.size ≤ L
theorem IR.new {W w w' : World} {R B C r : Nat} {g : Option Nat} {tx : List UInt8} {L : Nat} {q : List UInt8} (h : IR W R B C r g tx L q w) (hg : w.grownBy w' none) : IR W R B C r g tx L q w' := by
  obtain ⟨h1, h2, h3, h4, h5, h6, h7⟩ := h
  exact ⟨h1.new hg, h2.new hg, h3.new hg, h4.new hg, h5, h6.trans (KeepB.new hg), h7⟩

set_option maxRecDepth 20000 in
set_option maxHeartbeats 2000000 in
theorem step_Read {W w : World} {R B C r : Nat} {g : Option Nat} {tx : List UInt8} {L : Nat} {q : List UInt8} {c : UInt8} (hD : Sep W R B C r g) (hc : isL c) (h : IR W R B C r g tx L q w) (hL : L < w.heap.size) :
    Calls Try.prog 31 #[argV R c, .pointer (some ⟨B, 0, none⟩), .pointer (some ⟨C, 0, none⟩)] w fun e w' => e = .returned (.tuple #[]) ∧ IR W R B C r g tx L (q ++ [c]) w' ∧ w'.heap[L]? = w.heap[L]? := by
  obtain ⟨h1, h2, h3, h4, h5, h6, h7⟩ := h
  have hz : zRd (q ++ [c]) tx = RD (zRd q tx) c := by unfold zRd; rw [List.foldl_append]; rfl
  unfold IR
  rw [hz]
  clear hz
  generalize zRd q tx = z at *
  obtain ⟨p, ok, s⟩ := z
  dsimp only at *
  rw [RD_ok hc]
  have hle := Nat.le_trans (RD_le hc p true s) h5
  obtain ⟨⟨d1, d2, d3, d4, d5, d6, d7, d8⟩, l1, l2, l3, l4⟩ := hD
  have hsz := h6.size
  have HRA := Lib.hid (read_arg hc h1 h4 d1 d2 (by omega) (by omega))
  generalize RD (p, true, s) c = y at *
  obtain ⟨p', okc, s'⟩ := y
  dsimp only at *
  have HD := Lib.hid (show (R ≠ r ∧ g ≠ some R ∧ B ≠ R ∧ B ≠ r ∧ B ≠ C ∧ C ≠ R ∧ C ≠ r ∧ g ≠ some C) from ⟨d1, d2, d3, d4, d5, d6, d7, d8⟩)
  have HLE := Lib.hid hle
  have H3 := Lib.hid h3
  have H2 := Lib.hid h2
  have H6 := Lib.hid h6
  have HLW := Lib.hid hL
  have HLT : Hid (R < W.heap.size ∧ r < W.heap.size ∧ C < W.heap.size ∧ W.heap.size ≤ L) := Lib.hid ⟨l1, l4, l3, h7⟩
  have c0 := h2.cell (i := 0) (x := .pointer (some ⟨r, 0, none⟩)) rfl
  clear h1 h2 h3 h4 h5 h6 h7 d1 d2 d3 d4 d5 d6 d7 d8 l1 l2 l3 l4 hle hsz hc hL
  go_enter Try.func31, Try.ntmps31
  go_wp2_with fail
  refine HRA.out.mono ?_; rintro e w1 ⟨rfl, b1, r1, k1⟩
  have HB := Lib.hid b1
  have HR := Lib.hid r1
  have HK := Lib.hid k1
  have b3 := k1.blk H3.out (fun e => by have := HD.out; rcases e with e | e <;> simp_all)
  have HB3 := Lib.hid b3
  have HB2 := Lib.hid (k1.blk H2.out (fun e => by have := HD.out; rcases e with e | e <;> simp_all))
  have c1 := b3.cell (i := 0) (x := .bool ok) rfl
  have f1 := b3.frozen 0
  clear b1 r1 k1 b3 c0
  cases okc
  all_goals
    go_wp2_with fail
    go_end0
    have gs : ∀ u, w1.grownBy (w1.setCell ⟨C, 0, none⟩ (.bool u)) (some C) := fun u => Lib.grownBy_setB (World.grownBy.refl _ _) _ _
    have hd := HD.out
    refine ⟨rfl, ⟨HB.out.kept (gs _) (by simpa using (Ne.symm hd.2.2.2.2.2.1)), HB2.out.kept (gs _) (by simpa using hd.2.2.2.2.1), ?_, HR.out.kept (gs _) (by simpa using hd.2.2.2.2.2.2.1) (.inr hd.2.2.2.2.2.2.2), HLE.out, (H6.out.trans (HK.out.more (fun k e _ => by rcases e with e | e <;> simp [e]))).trans (KeepB.of (gs _) (fun k e => by cases e; simp)), HLT.out.2.2.2⟩, ?_⟩
    · first | exact HB3.out.set 0 (.bool false) | (rw [Bool.and_true]; exact HB3.out.set 0 (.bool ok)) | (rw [Bool.and_false]; exact HB3.out.set 0 (.bool false))
    · have lt := HLT.out
      have lw := HLW.out
      have sz := HK.out.size
      rw [(gs _).block L (by omega) (by simp; omega)]
      exact HK.out.block L lw (by omega)

theorem RdrS.lt {w : World} {r : Nat} {g : Option Nat} {s : St} (h : RdrS w r g s) : r < w.heap.size := by
  obtain ⟨v, h1, _⟩ := h
  exact Two.lt h1

set_option maxRecDepth 20000 in
set_option maxHeartbeats 8000000 in
theorem Read_any (k : Int) (tx : List UInt8) (w : World) (ht : tx.length ≤ 100000) : Calls Try.prog 11 #[.int .i64 k, .string ⟨tx.toArray⟩] w (PT w (aRead k tx)) := by
  have HE : Hid (aRead k tx = if 0 ≤ k ∧ k < 19 then aJudge (zRd (rowAt asksT k) tx) else (noPA, 62)) := Lib.hid (by
    unfold aRead
    by_cases hk : 0 ≤ k ∧ k < 19
    · rw [if_pos hk, if_pos hk, rowAt_asks, if_pos hk]; rfl
    · rw [if_neg hk, if_neg hk])
  have hcv : ∀ w : World, (convert 9 55 (.string ⟨tx.toArray⟩)).run Try.prog w = .ok (.slice (some ⟨w.heap.size, 0, none⟩) (⟨tx.toArray⟩ : ByteArray).size (grownCap w (⟨tx.toArray⟩ : ByteArray).size 0 5)) (Lib.bytesWorld w 5 ⟨tx.toArray⟩) := fun w => Lib.run_convert_string_bytes w _ _ _ _ und9 und22 und5
  have HT0 := Lib.hid ht
  obtain ⟨Z, hZ⟩ : ∃ Z, aRead k tx = Z := ⟨_, rfl⟩
  rw [hZ] at HE ⊢
  clear ht hZ
  go_enter Try.func11, Try.ntmps11
  go_upto_region 1 with fail
  have hR := Blk.made w 27 #[.int .i64 0, .int .i64 0, .int .i64 0, .int .i64 0, .int .i64 0, .int .i64 0, .string ⟨#[]⟩, .string ⟨#[]⟩, .string ⟨#[]⟩, .int .i64 0, .int .i64 0, .int .i64 0, .int .i64 0, .int .i64 0, .int .i64 0, .int .u64 0]
  have ga := World.grownBy_alloc w (.cells #[.int .i64 0, .int .i64 0, .int .i64 0, .int .i64 0, .int .i64 0, .int .i64 0, .string ⟨#[]⟩, .string ⟨#[]⟩, .string ⟨#[]⟩, .int .i64 0, .int .i64 0, .int .i64 0, .int .i64 0, .int .i64 0, .int .i64 0, .int .u64 0] 27) none
  generalize w.alloc (.cells #[.int .i64 0, .int .i64 0, .int .i64 0, .int .i64 0, .int .i64 0, .int .i64 0, .string ⟨#[]⟩, .string ⟨#[]⟩, .string ⟨#[]⟩, .int .i64 0, .int .i64 0, .int .i64 0, .int .i64 0, .int .i64 0, .int .i64 0, .int .u64 0] 27) = w1 at *
  obtain ⟨Q, hRR⟩ : ∃ R, R = w.heap.size := ⟨_, rfl⟩
  rw [← hRR] at hR ⊢
  have HQW : Hid (w.heap.size ≤ Q) := Lib.hid (by omega)
  have HQ := Lib.hid hR
  have HG := Lib.hid ga
  clear hRR hR ga
  go_upto_region 2 with fail
  have hR := Blk.made w1 27 #[.int .i64 0, .int .i64 0, .int .i64 0, .int .i64 0, .int .i64 0, .int .i64 0, .string ⟨#[]⟩, .string ⟨#[]⟩, .string ⟨#[]⟩, .int .i64 0, .int .i64 0, .int .i64 0, .int .i64 0, .int .i64 0, .int .i64 0, .int .u64 0]
  have ga := World.grownBy_alloc w1 (.cells #[.int .i64 0, .int .i64 0, .int .i64 0, .int .i64 0, .int .i64 0, .int .i64 0, .string ⟨#[]⟩, .string ⟨#[]⟩, .string ⟨#[]⟩, .int .i64 0, .int .i64 0, .int .i64 0, .int .i64 0, .int .i64 0, .int .i64 0, .int .u64 0] 27) none
  have hQR := HQ.out.lt
  replace HQ := Lib.hid (HQ.out.new ga)
  replace HG := Lib.hid (World.grownBy.trans HG.out ga)
  have HS1 := Lib.hid (hR.lt)
  generalize w1.alloc (.cells #[.int .i64 0, .int .i64 0, .int .i64 0, .int .i64 0, .int .i64 0, .int .i64 0, .string ⟨#[]⟩, .string ⟨#[]⟩, .string ⟨#[]⟩, .int .i64 0, .int .i64 0, .int .i64 0, .int .i64 0, .int .i64 0, .int .i64 0, .int .u64 0] 27) = w2 at *
  generalize w1.heap.size = R at *
  have HQR := Lib.hid hQR
  have HR := Lib.hid hR
  clear hR ga hQR
  go_wp2_with fail
  clear hcv
  have g2 := bytesWorld_grown w2 5 ⟨tx.toArray⟩
  have hT := bytesWorld_bts w2 ⟨tx.toArray⟩ (by have := HT0.out; show tx.length ≤ _; omega)
  generalize Lib.bytesWorld w2 5 ⟨tx.toArray⟩ = w3 at *
  replace HR := Lib.hid (HR.out.new g2)
  replace HQ := Lib.hid (HQ.out.new g2)
  replace HG := Lib.hid (World.grownBy.trans HG.out g2)
  clear g2
  refine (newReader_any _ tx w3 hT (by have := HT0.out; omega)).mono ?_; rintro e w4 ⟨r, g, rfl, y1, y2, y3, y4, y5⟩
  have hrR := HR.out.lt
  replace HR := Lib.hid (HR.out.new y2)
  replace HQ := Lib.hid (HQ.out.new y2)
  replace HG := Lib.hid (World.grownBy.trans HG.out y2)
  have HRD := Lib.hid y1
  have HSEP : Hid (R ≠ r ∧ g ≠ some R ∧ Q < r ∧ r < w4.heap.size ∧ R < w4.heap.size ∧ ∀ k, g = some k → k < w4.heap.size) := Lib.hid ⟨by omega, fun e => by have := y5 _ e; omega, by have := HQ.out.lt; have := HQR.out; omega, y4, HR.out.lt, fun k e => (y5 k e).2⟩
  clear y1 y2 y3 y4 y5 hT hrR
  go_upto_region 3 with fail
  have b1 := Blk.made w4 66 #[.pointer (some ⟨r, 0, none⟩)]
  have g1 := World.grownBy_alloc w4 (.cells #[.pointer (some ⟨r, 0, none⟩)] 66) none
  have b2 := Blk.made (w4.alloc (.cells #[.pointer (some ⟨r, 0, none⟩)] 66)) 4 #[.bool true]
  have g2 := World.grownBy_alloc (w4.alloc (.cells #[.pointer (some ⟨r, 0, none⟩)] 66)) (.cells #[.bool true] 4) none
  have hs : (w4.alloc (.cells #[.pointer (some ⟨r, 0, none⟩)] 66)).heap.size = w4.heap.size + 1 := by simp
  rw [hs] at b2
  have b1' := b1.new g2
  have g12 := World.grownBy.trans g1 g2
  clear hs b1 g1 g2
  generalize (w4.alloc (.cells #[.pointer (some ⟨r, 0, none⟩)] 66)).alloc (.cells #[.bool true] 4) = w5 at *
  obtain ⟨B, hBB⟩ : ∃ B, w4.heap.size = B := ⟨_, rfl⟩
  rw [hBB] at b1' b2 ⊢
  have HD : Hid (Sep w5 R B (B + 1) r g) := Lib.hid (by
    have h := HSEP.out
    have h1 := b1'.lt
    have h2 := b2.lt
    have h3 := g12.size
    refine ⟨⟨h.1, h.2.1, by omega, by omega, by omega, by omega, by omega, fun e => by have := h.2.2.2.2.2 _ e; omega⟩, by omega, by omega, by omega, by omega⟩)
  replace HQ := Lib.hid (HQ.out.new g12)
  replace HG := Lib.hid (World.grownBy.trans HG.out g12)
  have HIR : Hid (∀ L, w5.heap.size ≤ L → IR w5 R B (B + 1) r g tx L [] w5) := Lib.hid (fun L hL => ⟨HR.out.new g12, b1', b2, HRD.out.new g12, HT0.out, KeepB.refl _ _, hL⟩)
  have HW : Hid (w.heap.size ≤ Q ∧ Q < R ∧ Q < r ∧ Q < B) := Lib.hid ⟨HQW.out, HQR.out, HSEP.out.2.2.1, by have := HSEP.out; omega⟩
  have HAS := Lib.hid (asks_Read k R B (B + 1) (IR w5 R B (B + 1) r g tx) w5 HIR.out (fun L p w w' h hg => h.new hg) (fun L p c w hc _ h hl => step_Read HD.out hc h hl))
  obtain ⟨is, his⟩ : ∃ is, decide (0 ≤ k ∧ k < 19) = is := ⟨_, rfl⟩
  have HZ : Hid (Z = if is = true then aJudge (zRd (rowAt asksT k) tx) else (noPA, 62)) := Lib.hid (by
    rw [HE.out, ← his]
    by_cases hk : 0 ≤ k ∧ k < 19
    · rw [if_pos hk, if_pos (by simpa using hk)]
    · rw [if_neg hk, if_neg (by simpa using hk)])
  rw [his] at HAS
  clear g12 b1' b2 HIR HRD HR HSEP HQR hBB his HE HT0
  go_wp2_with fail
  refine HAS.out.mono ?_; rintro e wr ⟨rfl, L, hI⟩
  unfold IR at hI
  generalize zRd (rowAt asksT k) tx = z at *
  obtain ⟨⟨⟨h1, h2, h3⟩, ⟨t1, t2, t3⟩, n, o, x, a, q, m, sz, b, gd, v⟩, ok, st⟩ := z
  obtain ⟨i1, i2, i3, i4, i5, i6, i7⟩ := hI
  unfold paC txt at i1
  dsimp only at i1 i3 i4 i5
  replace HQ := Lib.hid (i6.blk HQ.out (fun e => by have := HW.out; omega))
  replace HG := Lib.hid (KeepB.grown i6 (fun k e => by have := HW.out; omega) HG.out)
  have HR := Lib.hid i1
  have HB := Lib.hid i2
  have HC := Lib.hid i3
  have HDN := Lib.hid (done_s r g st wr i4)
  clear i1 i2 i3 i4 i5 i6 i7 HAS
  obtain ⟨dn, hdd⟩ : ∃ dn, rDone st = dn := ⟨_, rfl⟩
  have HDE := Lib.hid hdd
  rw [hdd] at HDN
  clear hdd
  cases is
  · as_aux_lemma =>
      go_upto_region 5 with fail
      go_wp2_with (refine wpList_store_row rfl 27 (.tmp 4) (.tmp 18) rfl Q #[.int .i64 0, .int .i64 0, .int .i64 0, .int .i64 0, .int .i64 0, .int .i64 0, .string ⟨#[]⟩, .string ⟨#[]⟩, .string ⟨#[]⟩, .int .i64 0, .int .i64 0, .int .i64 0, .int .i64 0, .int .i64 0, .int .i64 0, .int .u64 0] rfl rfl 27 #[.int .i64 0, .int .i64 0, .int .i64 0, .int .i64 0, .int .i64 0, .int .i64 0, .string ⟨#[]⟩, .string ⟨#[]⟩, .string ⟨#[]⟩, .int .i64 0, .int .i64 0, .int .i64 0, .int .i64 0, .int .i64 0, .int .i64 0, .int .u64 0] HQ.out (by kernel_rfl) (by kernel_rfl) (by kernel_rfl) ?_)
      have hb := HQ.out.row #[.int .i64 0, .int .i64 0, .int .i64 0, .int .i64 0, .int .i64 0, .int .i64 0, .string ⟨#[]⟩, .string ⟨#[]⟩, .string ⟨#[]⟩, .int .i64 0, .int .i64 0, .int .i64 0, .int .i64 0, .int .i64 0, .int .i64 0, .int .u64 0]
      have hg := grown_own HG.out (setRow_grown wr Q #[.int .i64 0, .int .i64 0, .int .i64 0, .int .i64 0, .int .i64 0, .int .i64 0, .string ⟨#[]⟩, .string ⟨#[]⟩, .string ⟨#[]⟩, .int .i64 0, .int .i64 0, .int .i64 0, .int .i64 0, .int .i64 0, .int .i64 0, .int .u64 0]) (fun n hn => by cases hn; exact HW.out.1)
      generalize World.setRow _ _ _ = wE at *
      have k0 := hb.cell (i := 0) (x := .int .i64 0) rfl
      have k1 := hb.cell (i := 1) (x := .int .i64 0) rfl
      have k2 := hb.cell (i := 2) (x := .int .i64 0) rfl
      have k3 := hb.cell (i := 3) (x := .int .i64 0) rfl
      have k4 := hb.cell (i := 4) (x := .int .i64 0) rfl
      have k5 := hb.cell (i := 5) (x := .int .i64 0) rfl
      have k6 := hb.cell (i := 6) (x := .string ⟨#[]⟩) rfl
      have k7 := hb.cell (i := 7) (x := .string ⟨#[]⟩) rfl
      have k8 := hb.cell (i := 8) (x := .string ⟨#[]⟩) rfl
      have k9 := hb.cell (i := 9) (x := .int .i64 0) rfl
      have k10 := hb.cell (i := 10) (x := .int .i64 0) rfl
      have k11 := hb.cell (i := 11) (x := .int .i64 0) rfl
      have k12 := hb.cell (i := 12) (x := .int .i64 0) rfl
      have k13 := hb.cell (i := 13) (x := .int .i64 0) rfl
      have k14 := hb.cell (i := 14) (x := .int .i64 0) rfl
      have k15 := hb.cell (i := 15) (x := .int .u64 0) rfl
      exact bodyPost_ret (v := .tuple #[paV noPA, .int .i64 62]) (by simp [results, Try.results11, go_sem, paV, paC, txt, noPA, noHn, k0, k1, k2, k3, k4, k5, k6, k7, k8, k9, k10, k11, k12, k13, k14, k15]) rfl ⟨by rw [HZ.out, if_neg (by simp)], hg⟩
  · have cC := HC.out.cell (i := 0) (x := .bool ok) rfl
    have cB := HB.out.cell (i := 0) (x := .pointer (some ⟨r, 0, none⟩)) rfl
    cases ok
    · have HZ2 : Hid (Z = (noPA, 4)) := Lib.hid (by rw [HZ.out, if_pos rfl]; exact aJudge_no (z := (⟨⟨h1, h2, h3⟩, ⟨t1, t2, t3⟩, n, o, x, a, q, m, sz, b, gd, v⟩, false, st)) rfl)
      as_aux_lemma =>
        go_upto_region 7 with fail
        go_wp2_with (refine wpList_store_row rfl 27 (.tmp 4) (.tmp 26) rfl Q #[.int .i64 0, .int .i64 0, .int .i64 0, .int .i64 0, .int .i64 0, .int .i64 0, .string ⟨#[]⟩, .string ⟨#[]⟩, .string ⟨#[]⟩, .int .i64 0, .int .i64 0, .int .i64 0, .int .i64 0, .int .i64 0, .int .i64 0, .int .u64 0] rfl rfl 27 #[.int .i64 0, .int .i64 0, .int .i64 0, .int .i64 0, .int .i64 0, .int .i64 0, .string ⟨#[]⟩, .string ⟨#[]⟩, .string ⟨#[]⟩, .int .i64 0, .int .i64 0, .int .i64 0, .int .i64 0, .int .i64 0, .int .i64 0, .int .u64 0] HQ.out (by kernel_rfl) (by kernel_rfl) (by kernel_rfl) ?_)
        have hb := HQ.out.row #[.int .i64 0, .int .i64 0, .int .i64 0, .int .i64 0, .int .i64 0, .int .i64 0, .string ⟨#[]⟩, .string ⟨#[]⟩, .string ⟨#[]⟩, .int .i64 0, .int .i64 0, .int .i64 0, .int .i64 0, .int .i64 0, .int .i64 0, .int .u64 0]
        have hg := grown_own HG.out (setRow_grown wr Q #[.int .i64 0, .int .i64 0, .int .i64 0, .int .i64 0, .int .i64 0, .int .i64 0, .string ⟨#[]⟩, .string ⟨#[]⟩, .string ⟨#[]⟩, .int .i64 0, .int .i64 0, .int .i64 0, .int .i64 0, .int .i64 0, .int .i64 0, .int .u64 0]) (fun n hn => by cases hn; exact HW.out.1)
        generalize World.setRow _ _ _ = wE at *
        have k0 := hb.cell (i := 0) (x := .int .i64 0) rfl
        have k1 := hb.cell (i := 1) (x := .int .i64 0) rfl
        have k2 := hb.cell (i := 2) (x := .int .i64 0) rfl
        have k3 := hb.cell (i := 3) (x := .int .i64 0) rfl
        have k4 := hb.cell (i := 4) (x := .int .i64 0) rfl
        have k5 := hb.cell (i := 5) (x := .int .i64 0) rfl
        have k6 := hb.cell (i := 6) (x := .string ⟨#[]⟩) rfl
        have k7 := hb.cell (i := 7) (x := .string ⟨#[]⟩) rfl
        have k8 := hb.cell (i := 8) (x := .string ⟨#[]⟩) rfl
        have k9 := hb.cell (i := 9) (x := .int .i64 0) rfl
        have k10 := hb.cell (i := 10) (x := .int .i64 0) rfl
        have k11 := hb.cell (i := 11) (x := .int .i64 0) rfl
        have k12 := hb.cell (i := 12) (x := .int .i64 0) rfl
        have k13 := hb.cell (i := 13) (x := .int .i64 0) rfl
        have k14 := hb.cell (i := 14) (x := .int .i64 0) rfl
        have k15 := hb.cell (i := 15) (x := .int .u64 0) rfl
        exact bodyPost_ret (v := .tuple #[paV noPA, .int .i64 4]) (by simp [results, Try.results11, go_sem, paV, paC, txt, noPA, noHn, k0, k1, k2, k3, k4, k5, k6, k7, k8, k9, k10, k11, k12, k13, k14, k15]) rfl ⟨by rw [HZ2.out], hg⟩
    · cases hdn : dn
      · have HZ2 : Hid (Z = (noPA, 4)) := Lib.hid (by rw [HZ.out, if_pos rfl]; exact aJudge_no (z := (⟨⟨h1, h2, h3⟩, ⟨t1, t2, t3⟩, n, o, x, a, q, m, sz, b, gd, v⟩, true, st)) (by show (true && rDone st) = false; rw [HDE.out, hdn]; rfl))
        subst hdn
        as_aux_lemma =>
          go_wp2_with fail
          refine HDN.out.mono ?_; rintro e0 w9 ⟨rfl, rfl⟩
          go_upto_region 7 with fail
          go_wp2_with (refine wpList_store_row rfl 27 (.tmp 4) (.tmp 26) rfl Q #[.int .i64 0, .int .i64 0, .int .i64 0, .int .i64 0, .int .i64 0, .int .i64 0, .string ⟨#[]⟩, .string ⟨#[]⟩, .string ⟨#[]⟩, .int .i64 0, .int .i64 0, .int .i64 0, .int .i64 0, .int .i64 0, .int .i64 0, .int .u64 0] rfl rfl 27 #[.int .i64 0, .int .i64 0, .int .i64 0, .int .i64 0, .int .i64 0, .int .i64 0, .string ⟨#[]⟩, .string ⟨#[]⟩, .string ⟨#[]⟩, .int .i64 0, .int .i64 0, .int .i64 0, .int .i64 0, .int .i64 0, .int .i64 0, .int .u64 0] HQ.out (by kernel_rfl) (by kernel_rfl) (by kernel_rfl) ?_)
          have hb := HQ.out.row #[.int .i64 0, .int .i64 0, .int .i64 0, .int .i64 0, .int .i64 0, .int .i64 0, .string ⟨#[]⟩, .string ⟨#[]⟩, .string ⟨#[]⟩, .int .i64 0, .int .i64 0, .int .i64 0, .int .i64 0, .int .i64 0, .int .i64 0, .int .u64 0]
          have hg := grown_own HG.out (setRow_grown wr Q #[.int .i64 0, .int .i64 0, .int .i64 0, .int .i64 0, .int .i64 0, .int .i64 0, .string ⟨#[]⟩, .string ⟨#[]⟩, .string ⟨#[]⟩, .int .i64 0, .int .i64 0, .int .i64 0, .int .i64 0, .int .i64 0, .int .i64 0, .int .u64 0]) (fun n hn => by cases hn; exact HW.out.1)
          generalize World.setRow _ _ _ = wE at *
          have k0 := hb.cell (i := 0) (x := .int .i64 0) rfl
          have k1 := hb.cell (i := 1) (x := .int .i64 0) rfl
          have k2 := hb.cell (i := 2) (x := .int .i64 0) rfl
          have k3 := hb.cell (i := 3) (x := .int .i64 0) rfl
          have k4 := hb.cell (i := 4) (x := .int .i64 0) rfl
          have k5 := hb.cell (i := 5) (x := .int .i64 0) rfl
          have k6 := hb.cell (i := 6) (x := .string ⟨#[]⟩) rfl
          have k7 := hb.cell (i := 7) (x := .string ⟨#[]⟩) rfl
          have k8 := hb.cell (i := 8) (x := .string ⟨#[]⟩) rfl
          have k9 := hb.cell (i := 9) (x := .int .i64 0) rfl
          have k10 := hb.cell (i := 10) (x := .int .i64 0) rfl
          have k11 := hb.cell (i := 11) (x := .int .i64 0) rfl
          have k12 := hb.cell (i := 12) (x := .int .i64 0) rfl
          have k13 := hb.cell (i := 13) (x := .int .i64 0) rfl
          have k14 := hb.cell (i := 14) (x := .int .i64 0) rfl
          have k15 := hb.cell (i := 15) (x := .int .u64 0) rfl
          exact bodyPost_ret (v := .tuple #[paV noPA, .int .i64 4]) (by simp [results, Try.results11, go_sem, paV, paC, txt, noPA, noHn, k0, k1, k2, k3, k4, k5, k6, k7, k8, k9, k10, k11, k12, k13, k14, k15]) rfl ⟨by rw [HZ2.out], hg⟩
      · have HZ2 : Hid (Z = (⟨⟨h1, h2, h3⟩, ⟨t1, t2, t3⟩, n, o, x, a, q, m, sz, b, gd, v⟩, 0)) := Lib.hid (by rw [HZ.out, if_pos rfl]; exact aJudge_yes (z := (⟨⟨h1, h2, h3⟩, ⟨t1, t2, t3⟩, n, o, x, a, q, m, sz, b, gd, v⟩, true, st)) (by show (true && rDone st) = true; rw [HDE.out, hdn]; rfl))
        subst hdn
        as_aux_lemma =>
          go_wp2_with fail
          refine HDN.out.mono ?_; rintro e0 w9 ⟨rfl, rfl⟩
          have c0 := HR.out.cell (i := 0) (x := .int .i64 h1) rfl
          have c1 := HR.out.cell (i := 1) (x := .int .i64 h2) rfl
          have c2 := HR.out.cell (i := 2) (x := .int .i64 h3) rfl
          have c3 := HR.out.cell (i := 3) (x := .int .i64 t1) rfl
          have c4 := HR.out.cell (i := 4) (x := .int .i64 t2) rfl
          have c5 := HR.out.cell (i := 5) (x := .int .i64 t3) rfl
          have c6 := HR.out.cell (i := 6) (x := .string ⟨n.toArray⟩) rfl
          have c7 := HR.out.cell (i := 7) (x := .string ⟨o.toArray⟩) rfl
          have c8 := HR.out.cell (i := 8) (x := .string ⟨x.toArray⟩) rfl
          have c9 := HR.out.cell (i := 9) (x := .int .i64 a) rfl
          have c10 := HR.out.cell (i := 10) (x := .int .i64 q) rfl
          have c11 := HR.out.cell (i := 11) (x := .int .i64 m) rfl
          have c12 := HR.out.cell (i := 12) (x := .int .i64 sz) rfl
          have c13 := HR.out.cell (i := 13) (x := .int .i64 b) rfl
          have c14 := HR.out.cell (i := 14) (x := .int .i64 gd) rfl
          have c15 := HR.out.cell (i := 15) (x := .int .u64 v) rfl
          go_upto_region 8 with fail
          go_wp2_with (refine wpList_store_row rfl 27 (.tmp 4) (.tmp 27) rfl Q #[.int .i64 h1, .int .i64 h2, .int .i64 h3, .int .i64 t1, .int .i64 t2, .int .i64 t3, .string ⟨n.toArray⟩, .string ⟨o.toArray⟩, .string ⟨x.toArray⟩, .int .i64 a, .int .i64 q, .int .i64 m, .int .i64 sz, .int .i64 b, .int .i64 gd, .int .u64 v] rfl rfl 27 #[.int .i64 0, .int .i64 0, .int .i64 0, .int .i64 0, .int .i64 0, .int .i64 0, .string ⟨#[]⟩, .string ⟨#[]⟩, .string ⟨#[]⟩, .int .i64 0, .int .i64 0, .int .i64 0, .int .i64 0, .int .i64 0, .int .i64 0, .int .u64 0] HQ.out (by kernel_rfl) (by kernel_rfl) (by kernel_rfl) ?_)
          have hb := HQ.out.row #[.int .i64 h1, .int .i64 h2, .int .i64 h3, .int .i64 t1, .int .i64 t2, .int .i64 t3, .string ⟨n.toArray⟩, .string ⟨o.toArray⟩, .string ⟨x.toArray⟩, .int .i64 a, .int .i64 q, .int .i64 m, .int .i64 sz, .int .i64 b, .int .i64 gd, .int .u64 v]
          have hg := grown_own HG.out (setRow_grown wr Q #[.int .i64 h1, .int .i64 h2, .int .i64 h3, .int .i64 t1, .int .i64 t2, .int .i64 t3, .string ⟨n.toArray⟩, .string ⟨o.toArray⟩, .string ⟨x.toArray⟩, .int .i64 a, .int .i64 q, .int .i64 m, .int .i64 sz, .int .i64 b, .int .i64 gd, .int .u64 v]) (fun n hn => by cases hn; exact HW.out.1)
          clear c0 c1 c2 c3 c4 c5 c6 c7 c8 c9 c10 c11 c12 c13 c14 c15
          generalize World.setRow _ _ _ = wE at *
          have k0 := hb.cell (i := 0) (x := .int .i64 h1) rfl
          have k1 := hb.cell (i := 1) (x := .int .i64 h2) rfl
          have k2 := hb.cell (i := 2) (x := .int .i64 h3) rfl
          have k3 := hb.cell (i := 3) (x := .int .i64 t1) rfl
          have k4 := hb.cell (i := 4) (x := .int .i64 t2) rfl
          have k5 := hb.cell (i := 5) (x := .int .i64 t3) rfl
          have k6 := hb.cell (i := 6) (x := .string ⟨n.toArray⟩) rfl
          have k7 := hb.cell (i := 7) (x := .string ⟨o.toArray⟩) rfl
          have k8 := hb.cell (i := 8) (x := .string ⟨x.toArray⟩) rfl
          have k9 := hb.cell (i := 9) (x := .int .i64 a) rfl
          have k10 := hb.cell (i := 10) (x := .int .i64 q) rfl
          have k11 := hb.cell (i := 11) (x := .int .i64 m) rfl
          have k12 := hb.cell (i := 12) (x := .int .i64 sz) rfl
          have k13 := hb.cell (i := 13) (x := .int .i64 b) rfl
          have k14 := hb.cell (i := 14) (x := .int .i64 gd) rfl
          have k15 := hb.cell (i := 15) (x := .int .u64 v) rfl
          exact bodyPost_ret (v := .tuple #[paV ⟨⟨h1, h2, h3⟩, ⟨t1, t2, t3⟩, n, o, x, a, q, m, sz, b, gd, v⟩, .int .i64 0]) (by simp [results, Try.results11, go_sem, paV, paC, txt, k0, k1, k2, k3, k4, k5, k6, k7, k8, k9, k10, k11, k12, k13, k14, k15]) rfl ⟨by rw [HZ2.out], hg⟩

