/- handle.Decode. -/
import Derived.Test.YtpklgcinijlmmaaHanC
import Derived.Test.YtpklgcinijlmmaaHanD
namespace Go.Proofs.Ytpklgcinijlmmaa
open Go.RowKit

set_option maxRecDepth 10000 in
set_option maxHeartbeats 1000000 in
theorem dec_off (l : List UInt8) (w : World) (h : l.length ≠ 24) (hm : l.length ≤ maxLen) : Calls Try.prog 78 #[.string ⟨l.toArray⟩] w (HT w (noHn, 4)) := by
  have h1 : ((l.length : Int) != 24) = true := by simp; omega
  have h2 : (l.length : Int) ≤ 9223372036854775807 := by unfold maxLen at hm; omega
  clear h hm
  go_enter Try.func78, Try.ntmps78
  go_wp2_with fail
  exact bodyPost_ret (v := .tuple #[hnV noHn, .int .i64 4]) (by simp [results, Try.results78, go_sem, hnV, noHn]) rfl ⟨rfl, World.grownBy_alloc _ _ _⟩

set_option maxRecDepth 10000 in
set_option maxHeartbeats 2000000 in
theorem dec_on (l : List UInt8) (w : World) (h : l.length = 24) (p : Hn × Int) (t : List UInt8) (f : Int) (n1 n2 n3 : Int) (hn : n1 = numAt l 4 ∧ n2 = numAt l 8 ∧ n3 = numAt l 12) (he : hEnc fnv ⟨n1, n2, n3⟩ = (t, f))
    (hp : (t == l) = false ∧ p = (noHn, 4) ∨ t = l ∧ p = (⟨n1, n2, n3⟩, 0)) :
    Calls Try.prog 78 #[.string ⟨l.toArray⟩] w (HT w p) := by
  have HN1 := Lib.hid (fun w => word_any l 1 w h (by omega))
  have HN2 := Lib.hid (fun w => word_any l 2 w h (by omega))
  have HN3 := Lib.hid (fun w => word_any l 3 w h (by omega))
  rw [show 4 * 1 = 4 from rfl, ← hn.1] at HN1
  rw [show 4 * 2 = 8 from rfl, ← hn.2.1] at HN2
  rw [show 4 * 3 = 12 from rfl, ← hn.2.2] at HN3
  have HE := Lib.hid (fun w => Enc_any ⟨n1, n2, n3⟩ w)
  rw [he] at HE
  unfold hnV at HE
  have HP := Lib.hid hp
  have hl24 : ((l.length : Nat) : Int) = 24 := by omega
  clear h hn he hp
  go_enter Try.func78, Try.ntmps78
  go_upto_region 3 with fail
  have hR := Blk.made w 24 #[.int .i64 0, .int .i64 0, .int .i64 0]
  have ga := World.grownBy_alloc w (.cells #[.int .i64 0, .int .i64 0, .int .i64 0] 24) none
  have B_r := Lib.hid hR
  have G := Lib.hid ga
  obtain ⟨R, hRR⟩ : ∃ R, R = w.heap.size := ⟨_, rfl⟩
  have E_r := Lib.hid (Nat.le_of_eq hRR.symm)
  rw [← hRR] at B_r ⊢
  clear hR ga hRR
  generalize w.alloc (.cells #[.int .i64 0, .int .i64 0, .int .i64 0] 24) = w0 at *
  go_wp2_with fail
  refine (HN1.out _).mono ?_; rintro e w1 ⟨rfl, g1⟩
  replace G := Lib.hid (World.grownBy.trans G.out g1)
  replace B_r := Lib.hid (B_r.out.new g1)
  clear g1
  go_wp2_with fail
  refine (HN2.out _).mono ?_; rintro e w2 ⟨rfl, g1⟩
  replace G := Lib.hid (World.grownBy.trans G.out g1)
  replace B_r := Lib.hid (B_r.out.new g1)
  clear g1
  go_wp2_with fail
  refine (HN3.out _).mono ?_; rintro e w3 ⟨rfl, g1⟩
  replace G := Lib.hid (World.grownBy.trans G.out g1)
  replace B_r := Lib.hid (B_r.out.new g1)
  clear g1
  go_upto_region 4 with fail
  have hb := Blk.made w3 24 #[.int .i64 n1, .int .i64 n2, .int .i64 n3]
  have ga := World.grownBy_alloc w3 (.cells #[.int .i64 n1, .int .i64 n2, .int .i64 n3] 24) none
  replace G := Lib.hid (World.grownBy.trans G.out ga)
  replace B_r := Lib.hid (B_r.out.new ga)
  generalize w3.alloc (.cells #[.int .i64 n1, .int .i64 n2, .int .i64 n3] 24) = w4 at *
  generalize w3.heap.size = H at *
  have B_h := Lib.hid hb
  have c_h_0 := hb.cell (i := 0) (x := .int .i64 n1) rfl
  have c_h_1 := hb.cell (i := 1) (x := .int .i64 n2) rfl
  have c_h_2 := hb.cell (i := 2) (x := .int .i64 n3) rfl
  clear hb ga
  go_wp2_with fail
  refine (HE.out _).mono ?_; rintro e w5 ⟨rfl, g1⟩
  replace G := Lib.hid (World.grownBy.trans G.out g1)
  replace B_h := Lib.hid (B_h.out.new g1)
  replace B_r := Lib.hid (B_r.out.new g1)
  clear g1 c_h_0 c_h_1 c_h_2
  try unfold txt
  have c_h_0 := B_h.out.cell (i := 0) (x := .int .i64 n1) rfl
  have c_h_1 := B_h.out.cell (i := 1) (x := .int .i64 n2) rfl
  have c_h_2 := B_h.out.cell (i := 2) (x := .int .i64 n3) rfl
  have c_r_0 := B_r.out.cell (i := 0) (x := .int .i64 0) rfl
  have c_r_1 := B_r.out.cell (i := 1) (x := .int .i64 0) rfl
  have c_r_2 := B_r.out.cell (i := 2) (x := .int .i64 0) rfl
  have e0 := B_r.out.frozen 0
  have e1 := B_r.out.frozen 1
  have e2 := B_r.out.frozen 2
  rcases HP.out with ⟨q1, rfl⟩ | ⟨rfl, rfl⟩
  · go_wp2_with fail
    have gs := Lib.grownBy_setB (Lib.grownBy_setB (Lib.grownBy_setB (World.grownBy.refl w5 (some R)) 0 (.int .i64 0)) 1 (.int .i64 0)) 2 (.int .i64 0)
    have hb := ((B_r.out.set 0 (.int .i64 0)).set 1 (.int .i64 0)).set 2 (.int .i64 0)
    have hg := grown_own G.out gs (fun n hn => by cases hn; exact E_r.out)
    clear gs c_h_0 c_h_1 c_h_2 c_r_0 c_r_1 c_r_2 e0 e1 e2 B_r B_h
    generalize World.setCell _ _ _ = wE at *
    have k0 := hb.cell (i := 0) (x := .int .i64 0) rfl
    have k1 := hb.cell (i := 1) (x := .int .i64 0) rfl
    have k2 := hb.cell (i := 2) (x := .int .i64 0) rfl
    exact bodyPost_ret (v := .tuple #[hnV noHn, .int .i64 4]) (by simp [results, Try.results78, go_sem, hnV, noHn, k0, k1, k2]) rfl ⟨rfl, hg⟩
  · go_wp2_with fail
    have gs := Lib.grownBy_setB (Lib.grownBy_setB (Lib.grownBy_setB (World.grownBy.refl w5 (some R)) 0 (.int .i64 n1)) 1 (.int .i64 n2)) 2 (.int .i64 n3)
    have hb := ((B_r.out.set 0 (.int .i64 n1)).set 1 (.int .i64 n2)).set 2 (.int .i64 n3)
    have hg := grown_own G.out gs (fun n hn => by cases hn; exact E_r.out)
    clear gs c_h_0 c_h_1 c_h_2 c_r_0 c_r_1 c_r_2 e0 e1 e2 B_r B_h
    generalize World.setCell _ _ _ = wE at *
    have k0 := hb.cell (i := 0) (x := .int .i64 n1) rfl
    have k1 := hb.cell (i := 1) (x := .int .i64 n2) rfl
    have k2 := hb.cell (i := 2) (x := .int .i64 n3) rfl
    exact bodyPost_ret (v := .tuple #[hnV ⟨n1, n2, n3⟩, .int .i64 0]) (by simp [results, Try.results78, go_sem, hnV, k0, k1, k2]) rfl ⟨rfl, hg⟩

theorem Dec_any (l : List UInt8) (w : World) (hm : l.length ≤ maxLen) : Calls Try.prog 78 #[.string ⟨l.toArray⟩] w (HT w (hDec fnv l)) := by
  by_cases h : l.length = 24
  · by_cases hM : hMay (said l)
    · refine dec_on l w h _ (hB fnv (said l)) 0 _ _ _ ⟨rfl, rfl, rfl⟩ (hEnc_of hM) ?_
      unfold hDec
      by_cases hB' : hB fnv (said l) = l
      · exact .inr ⟨hB', if_pos ⟨h, hM, hB'⟩⟩
      · exact .inl ⟨beq_eq_false_iff_ne.2 hB', if_neg fun q => hB' q.2.2⟩
    · refine dec_on l w h _ [] 4 _ _ _ ⟨rfl, rfl, rfl⟩ (hEnc_not hM) ?_
      unfold hDec
      exact .inl ⟨beq_eq_false_iff_ne.2 (fun q => by rw [← q] at h; cases h), if_neg fun q => hM q.2.1⟩
  · have e : hDec fnv l = (noHn, 4) := if_neg fun q => h q.1
    rw [e]
    exact dec_off l w h hm
end Go.Proofs.Ytpklgcinijlmmaa
