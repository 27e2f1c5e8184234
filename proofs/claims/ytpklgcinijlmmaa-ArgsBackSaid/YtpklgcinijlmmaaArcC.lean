/- Arguments as words, the code: a field's words. -/
import Derived.Test.YtpklgcinijlmmaaArcB
import Derived.Test.YtpklgcinijlmmaaArcT
import Derived.Test.YtpklgcinijlmmaaArgD
import Derived.Test.YtpklgcinijlmmaaHanC
import Derived.Test.YtpklgcinijlmmaaNew
namespace Go.Proofs.Ytpklgcinijlmmaa
open Go.RowKit

theorem hEnc_fixed (h : Hn) : fixedB (hEnc fnv h).1 = (hEnc fnv h).1 := by
  have hp : pad ((hEnc fnv h).1).length = 0 := by
    unfold hEnc
    split
    · rw [hB_len]; rfl
    · rfl
  unfold fixedB
  rw [hp]; simp

section
variable {w : World} {A : Addr}
set_option maxRecDepth 20000 in
set_option maxHeartbeats 1000000 in
theorem words_int (n : Int) (hc : w.cell? A = some (.int .i64 n)) : Calls Try.prog 29 #[.iface 97 (.pointer (some A))] w (New w (longB (bits64 n))) := by
  have t0 := fun (w : World) (v : Value) => ta_0_0 w v
  go_enter Try.func29, Try.ntmps29
  go_wp2_with fail
  refine (Int_any _ [] n w (Bts.nil w) (by simp)).mono ?_; rintro e w2 ⟨v2, rfl, h1, h2⟩
  obtain ⟨a2, n2, c2, rfl⟩ := h1.bts.shape
  have H1 := Lib.hid h1; have H2 := Lib.hid h2
  clear h1 h2
  go_wp2_with fail
  go_ret
  exact ⟨_, rfl, H1.out, H2.out⟩

set_option maxRecDepth 20000 in
set_option maxHeartbeats 1000000 in
theorem words_long (n : Nat) (hn : n < 18446744073709551616) (hc : w.cell? A = some (.int .u64 n)) : Calls Try.prog 29 #[.iface 98 (.pointer (some A))] w (New w (longB n)) := by
  have HL := Lib.hid (Long_any _ [] n w (Bts.nil w) (by simp) hn)
  have hn2 : (n : Int) ≤ 18446744073709551615 := by omega
  clear hn
  have t0 := fun (w : World) (v : Value) => ta_1_0 w v
  have t1 := fun (w : World) (v : Value) => ta_1_1 w v
  go_enter Try.func29, Try.ntmps29
  go_wp2_with fail
  refine HL.out.mono ?_; rintro e w2 ⟨v2, rfl, h1, h2⟩
  obtain ⟨a2, n2, c2, rfl⟩ := h1.bts.shape
  have H1 := Lib.hid h1; have H2 := Lib.hid h2
  clear h1 h2
  go_wp2_with fail
  go_ret
  exact ⟨_, rfl, H1.out, H2.out⟩

set_option maxRecDepth 20000 in
set_option maxHeartbeats 1000000 in
theorem words_text (l : List UInt8) (m : Int) (hl : l.length ≤ 1000000000) (hc : w.cell? A = some (txt l)) : Calls Try.prog 29 #[.iface 102 (.agg #[.pointer (some A), .int .i64 m])] w (New w (textB l)) := by
  unfold txt at hc
  have ga := World.grownBy_alloc w (.cells #[.pointer (some A), .int .i64 m] 102) none
  have hB := Blk.made w 102 #[.pointer (some A), .int .i64 m]
  have hc2 := ga.cell hc (by simp)
  have HT := Lib.hid (fun w => Text_any (.slice none 0 0) [] ⟨l.toArray⟩ w (Bts.nil w) (by simp) (by show l.length ≤ _; exact hl))
  have GA := Lib.hid ga
  have c0 := hB.cell (i := 0) (x := .pointer (some A)) rfl
  clear ga hB hc hl
  have t0 := fun (w : World) (v : Value) => ta_3_0 w v
  have t1 := fun (w : World) (v : Value) => ta_3_1 w v
  have t2 := fun (w : World) (v : Value) => ta_3_2 w v
  have t3 := fun (w : World) (v : Value) => ta_3_3 w v
  go_enter Try.func29, Try.ntmps29
  go_wp2_with fail
  generalize w.alloc (.cells #[.pointer (some A), .int .i64 m] 102) = w1 at *
  refine (HT.out w1).mono ?_; rintro e w2 ⟨v2, rfl, h1, h2⟩
  obtain ⟨a2, n2, c2, rfl⟩ := h1.bts.shape
  have H1 := Lib.hid (h1.base GA.out.size); have H2 := Lib.hid (World.grownBy.trans GA.out h2)
  clear h1 h2
  go_wp2_with fail
  go_ret
  exact ⟨_, rfl, H1.out, H2.out⟩
end

set_option maxRecDepth 20000 in
set_option maxHeartbeats 1000000 in
theorem words_handle {w : World} {R o : Nat} (h : Hn) (c0 : w.cell? ⟨R, o, none⟩ = some (.int .i64 h.s)) (c1 : w.cell? ⟨R, o + 1, none⟩ = some (.int .i64 h.i)) (c2 : w.cell? ⟨R, o + 2, none⟩ = some (.int .i64 h.g)) :
    Calls Try.prog 29 #[.iface 105 (.pointer (some ⟨R, o, none⟩))] w (New w (hEnc fnv h).1) := by
  have HE := Lib.hid (fun w => Enc_any h w)
  have HX := Lib.hid (hEnc_fixed h)
  have HLL := Lib.hid (hEnc_len h)
  generalize hEnc fnv h = q at *
  obtain ⟨tx, f⟩ := q
  obtain ⟨s, i, g⟩ := h
  unfold TE txt hnV at HE
  dsimp only at *
  have HF := Lib.hid (fun w => Fixed_any (.slice none 0 0) [] ⟨tx.toArray⟩ w (Bts.nil w) (by simp) (by show tx.length ≤ _; have := HLL.out; omega))
  have t0 := fun (w : World) (v : Value) => ta_6_0 w v
  have t1 := fun (w : World) (v : Value) => ta_6_1 w v
  have t2 := fun (w : World) (v : Value) => ta_6_2 w v
  have t3 := fun (w : World) (v : Value) => ta_6_3 w v
  have t4 := fun (w : World) (v : Value) => ta_6_4 w v
  have t5 := fun (w : World) (v : Value) => ta_6_5 w v
  have t6 := fun (w : World) (v : Value) => ta_6_6 w v
  go_enter Try.func29, Try.ntmps29
  go_wp2_with fail
  refine (HE.out w).mono ?_; rintro e w2 ⟨rfl, g2⟩
  have G2 := Lib.hid g2
  clear g2
  go_wp2_with fail
  refine (HF.out w2).mono ?_; rintro e w3 ⟨v3, rfl, h1, h2⟩
  obtain ⟨a2, n2, c3, rfl⟩ := h1.bts.shape
  have e1 : ([] ++ ((⟨tx.toArray⟩ : ByteArray).data.toList ++ List.replicate (pad (⟨tx.toArray⟩ : ByteArray).size) 0)) = tx := HX.out
  rw [e1] at h1
  have H1 := Lib.hid (h1.base G2.out.size); have H2 := Lib.hid (World.grownBy.trans G2.out h2)
  clear h1 h2 e1
  go_wp2_with fail
  go_ret
  exact ⟨_, rfl, H1.out, H2.out⟩

theorem words_arg {w : World} {R : Nat} {p : PA} (hb : Blk w R 27 (paC p)) (c : UInt8) (hc : isL c) (hn : p.n.length ≤ 1000000000) (ho : p.o.length ≤ 1000000000) (hx : p.x.length ≤ 1000000000) (hv : 0 ≤ p.v ∧ p.v < 18446744073709551616) :
    Calls Try.prog 29 #[argV R c] w (New w (aF p c)) := by
  rcases hc with rfl | rfl | rfl | rfl | rfl | rfl | rfl | rfl | rfl | rfl | rfl | rfl
  · exact words_handle p.h (hb.cell rfl) (hb.cell rfl) (hb.cell rfl)
  · exact words_handle p.t (hb.cell rfl) (hb.cell rfl) (hb.cell rfl)
  · exact words_text p.n 255 hn (hb.cell rfl)
  · exact words_text p.o 255 ho (hb.cell rfl)
  · exact words_text p.x 2048 hx (hb.cell rfl)
  · have hc := hb.cell (i := 15) (x := .int .u64 p.v) rfl
    obtain ⟨n, hn⟩ := Int.eq_ofNat_of_zero_le hv.1
    rw [hn] at hc
    have e : aF p 118 = longB n := by show longB p.v.toNat = _; rw [hn]; rfl
    rw [e]
    exact words_long n (by omega) hc
  · exact words_int p.a (hb.cell rfl)
  · exact words_int p.c (hb.cell rfl)
  · exact words_int p.m (hb.cell rfl)
  · exact words_int p.s (hb.cell rfl)
  · exact words_int p.b (hb.cell rfl)
  · exact words_int p.g (hb.cell rfl)
end Go.Proofs.Ytpklgcinijlmmaa
