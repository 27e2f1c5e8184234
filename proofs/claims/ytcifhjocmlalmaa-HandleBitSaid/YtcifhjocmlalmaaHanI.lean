/- HandleBit, call by call. -/
import Derived.Test.YtcifhjocmlalmaaHanO
namespace Go.Proofs.Ytcifhjocmlalmaa
open Go.RowKit

theorem bytesW_grown (w : World) (e : TypeId) (s : ByteArray) : w.grownBy (Lib.bytesWorld w e s) none :=
  ⟨rfl, rfl, rfl, by rw [Lib.bytesWorld_size]; omega, fun k hk _ => Lib.bytesWorld_at_old w e s k hk⟩

/-- Bytes that a conversion made: their cells, none of them sealed. -/
def Row (w : World) (r : Nat) (l : List UInt8) : Prop := ∃ (xs : Array Value) (n m : Nat), w.heap[r]? = some (.cells xs 5 (n, m)) ∧ l.length ≤ n ∧ ∀ j (h : j < l.length), xs[j]? = some (u8v l[j])
theorem Row.cells {w : World} {r : Nat} {l : List UInt8} (h : Row w r l) : BCells w r 0 l := fun i hi => by
  obtain ⟨xs, n, m, h1, _, h3⟩ := h
  have := h3 i hi
  rw [Nat.zero_add]
  simp [World.cell?, h1, this, u8v]
theorem Row.frozen {w : World} {r : Nat} {l : List UInt8} (h : Row w r l) (i : Nat) (hi : i < l.length) : w.frozen? ⟨r, i, none⟩ = false := by
  obtain ⟨xs, n, m, h1, h2, _⟩ := h
  simp [World.frozen?, h1]
  omega
theorem Row.set {w : World} {r : Nat} {l : List UInt8} (h : Row w r l) (i : Nat) (c : UInt8) : Row (w.setCell ⟨r, i, none⟩ (u8v c)) r (l.set i c) := by
  obtain ⟨xs, n, m, h1, h2, h3⟩ := h
  refine ⟨xs.setIfInBounds i (u8v c), n, m, by simp [World.setCell, Array.getElem?_modify, h1], by rw [List.length_set]; exact h2, fun j hj => ?_⟩
  rw [List.length_set] at hj
  have := h3 j hj
  have hlt := (Array.getElem?_eq_some_iff.1 this).1
  rw [List.getElem_set, Array.getElem?_setIfInBounds]
  by_cases hij : i = j
  · subst hij; simp [hlt]
  · simp [hij, this]
theorem Row.made (w : World) (l : List UInt8) : Row (Lib.bytesWorld w 5 ⟨l.toArray⟩) w.heap.size l := by
  refine ⟨_, _, _, Lib.bytesWorld_at_new w 5 ⟨l.toArray⟩, ?_, fun j hj => ?_⟩
  · simp [Lib.bytesCells]
  · simp [Lib.bytesCells, Array.getElem?_append, hj, u8v]

theorem hDec_err (l : List UInt8) : (hDec fnv l).2 = 0 ∨ (hDec fnv l).2 = 4 := by
  unfold hDec
  split
  · exact .inl rfl
  · exact .inr rfl

theorem place (n : Int) : ∃ i : Nat, i < 24 ∧ wrap64 ((IntKind.u64.wrap n).tmod 24) = (i : Int) := by
  have h0 : 0 ≤ IntKind.u64.wrap n := by rw [IntKind.wrap_u64]; omega
  refine ⟨((IntKind.u64.wrap n) % 24).toNat, by omega, ?_⟩
  rw [Int.tmod_eq_emod_of_nonneg h0, w64_id (by omega) (by omega)]
  omega

set_option maxRecDepth 10000 in
set_option maxHeartbeats 2000000 in
theorem bit_no (a : Hn) (at_ : Int) (c : UInt8) (w : World) (ha : ¬ hMay a) : Calls Try.prog 6 #[hnV a, .int .i64 at_, .int .u8 (c.toNat : Int)] w (OK w) := by
  have HW := Lib.hid (fun w => awake_any w)
  have HE := Lib.hid (fun w => Enc_any a w)
  have HM := Lib.hid (fun w => may_any a w)
  rw [hEnc_not ha] at HE
  rw [decide_eq_false ha] at HM
  clear ha
  obtain ⟨a1, a2, a3⟩ := a
  unfold hnV at *
  dsimp only at HE HM
  dsimp only
  go_enter Try.func6, Try.ntmps6
  go_upto_region 1 with fail
  have hb := Blk.made w 23 #[.int .i64 a1, .int .i64 a2, .int .i64 a3]
  have hg := World.grownBy_alloc w (.cells #[.int .i64 a1, .int .i64 a2, .int .i64 a3] 23) none
  have G := Lib.hid (hg)
  generalize w.alloc (.cells #[.int .i64 a1, .int .i64 a2, .int .i64 a3] 23) = u1 at *
  generalize w.heap.size = K_h at *
  have B_h := Lib.hid hb
  clear hb hg
  have c_h0 := B_h.out.cell (i := 0) (x := .int .i64 a1) rfl
  have c_h1 := B_h.out.cell (i := 1) (x := .int .i64 a2) rfl
  have c_h2 := B_h.out.cell (i := 2) (x := .int .i64 a3) rfl
  go_wp2_with fail
  clear c_h0 c_h1 c_h2
  refine (HW.out _).mono ?_; rintro e u2 ⟨rfl, hg⟩
  replace G := Lib.hid (World.grownBy.trans G.out hg)
  replace B_h := Lib.hid (B_h.out.new hg)
  clear hg
  have c_h0 := B_h.out.cell (i := 0) (x := .int .i64 a1) rfl
  have c_h1 := B_h.out.cell (i := 1) (x := .int .i64 a2) rfl
  have c_h2 := B_h.out.cell (i := 2) (x := .int .i64 a3) rfl
  go_wp2_with fail
  clear c_h0 c_h1 c_h2
  refine (HE.out _).mono ?_; rintro e u3 ⟨rfl, hg⟩
  replace G := Lib.hid (World.grownBy.trans G.out hg)
  replace B_h := Lib.hid (B_h.out.new hg)
  clear hg
  try unfold txt
  have c_h0 := B_h.out.cell (i := 0) (x := .int .i64 a1) rfl
  have c_h1 := B_h.out.cell (i := 1) (x := .int .i64 a2) rfl
  have c_h2 := B_h.out.cell (i := 2) (x := .int .i64 a3) rfl
  go_wp2_with fail
  clear c_h0 c_h1 c_h2
  refine (HM.out _).mono ?_; rintro e u4 ⟨rfl, hg⟩
  replace G := Lib.hid (World.grownBy.trans G.out hg)
  replace B_h := Lib.hid (B_h.out.new hg)
  clear hg
  have c_h0 := B_h.out.cell (i := 0) (x := .int .i64 a1) rfl
  have c_h1 := B_h.out.cell (i := 1) (x := .int .i64 a2) rfl
  have c_h2 := B_h.out.cell (i := 2) (x := .int .i64 a3) rfl
  go_wp2_with fail
  go_ret
  exact ⟨rfl, G.out⟩

set_option maxRecDepth 10000 in
set_option maxHeartbeats 8000000 in
theorem bit_in (a : Hn) (at_ : Int) (c : UInt8) (w : World) (ha : hMay a) : Calls Try.prog 6 #[hnV a, .int .i64 at_, .int .u8 (c.toNat : Int)] w (OK w) := by
  have HW := Lib.hid (fun w => awake_any w)
  have HE := Lib.hid (fun w => Enc_any a w)
  have hl : (((hB fnv a).length : Nat) : Int) = 24 := rfl
  have HL := Lib.hid (hB_len (F := fnv) a)
  obtain ⟨i, hi, he⟩ := place at_
  have hiL : i < (hB fnv a).length := by rw [hB_len]; exact hi
  have hBN : Hid ((hB fnv a)[i] ≠ c → i < 4 ∨ 16 ≤ i → (hDec fnv ((hB fnv a).set i c)).2 = 4) := Lib.hid (fun hc hp => bit_none ha hiL hc hp)
  have hBO : Hid ((hB fnv a)[i] ≠ c → hDec fnv ((hB fnv a).set i c) = (a, 0) → False) := Lib.hid (fun hc hd => bit_other hiL hc hd)
  rw [hEnc_of ha] at HE
  clear ha
  generalize hB fnv a = T at *
  have hcv : ∀ w : World, (convert 9 33 (.string ⟨T.toArray⟩)).run Try.prog w = .ok (.slice (some ⟨w.heap.size, 0, none⟩) 24 (grownCap w 24 0 5)) (Lib.bytesWorld w 5 ⟨T.toArray⟩) := fun w => by
    have := Lib.run_convert_string_bytes (P := Try.prog) w 9 33 5 ⟨T.toArray⟩ und9 und22 und5
    rw [show (⟨T.toArray⟩ : ByteArray).size = 24 from HL.out] at this
    exact this
  obtain ⟨a1, a2, a3⟩ := a
  unfold hnV at *
  dsimp only at HE
  dsimp only
  go_enter Try.func6, Try.ntmps6
  go_upto_region 1 with fail
  have hb := Blk.made w 23 #[.int .i64 a1, .int .i64 a2, .int .i64 a3]
  have hg := World.grownBy_alloc w (.cells #[.int .i64 a1, .int .i64 a2, .int .i64 a3] 23) none
  have G := Lib.hid (hg)
  generalize w.alloc (.cells #[.int .i64 a1, .int .i64 a2, .int .i64 a3] 23) = u1 at *
  generalize w.heap.size = K_h at *
  have B_h := Lib.hid hb
  clear hb hg
  have c_h0 := B_h.out.cell (i := 0) (x := .int .i64 a1) rfl
  have c_h1 := B_h.out.cell (i := 1) (x := .int .i64 a2) rfl
  have c_h2 := B_h.out.cell (i := 2) (x := .int .i64 a3) rfl
  go_wp2_with fail
  clear c_h0 c_h1 c_h2
  refine (HW.out _).mono ?_; rintro e u2 ⟨rfl, hg⟩
  replace G := Lib.hid (World.grownBy.trans G.out hg)
  replace B_h := Lib.hid (B_h.out.new hg)
  clear hg
  have c_h0 := B_h.out.cell (i := 0) (x := .int .i64 a1) rfl
  have c_h1 := B_h.out.cell (i := 1) (x := .int .i64 a2) rfl
  have c_h2 := B_h.out.cell (i := 2) (x := .int .i64 a3) rfl
  go_wp2_with fail
  clear c_h0 c_h1 c_h2
  refine (HE.out _).mono ?_; rintro e u3 ⟨rfl, hg⟩
  replace G := Lib.hid (World.grownBy.trans G.out hg)
  replace B_h := Lib.hid (B_h.out.new hg)
  clear hg
  try unfold txt
  have c_h0 := B_h.out.cell (i := 0) (x := .int .i64 a1) rfl
  have c_h1 := B_h.out.cell (i := 1) (x := .int .i64 a2) rfl
  have c_h2 := B_h.out.cell (i := 2) (x := .int .i64 a3) rfl
  go_upto_region 7 with fail
  clear c_h0 c_h1 c_h2
  rw [he]
  have hE := G.out.size
  have hK := B_h.out.lt
  have hr := Row.made u3 T
  have hg := bytesW_grown u3 5 ⟨T.toArray⟩
  have hcap := grownCap_ge u3 24 0 5
  have hcap2 := grownCap_le_maxLen u3 24 0 5 (by unfold maxLen; omega)
  go_upto_region 8 with fail
  replace G := Lib.hid (World.grownBy.trans G.out hg)
  replace B_h := Lib.hid (B_h.out.new hg)
  generalize Lib.bytesWorld u3 5 ⟨T.toArray⟩ = u4 at *
  generalize grownCap u3 24 0 5 = cp at *
  generalize u3.heap.size = R at *
  have RR := Lib.hid hr
  have ER := Lib.hid (And.intro hE hK)
  have CAP := Lib.hid (And.intro hcap hcap2)
  have hc := hr.cells i (by have := HL.out; omega)
  rw [Nat.zero_add] at hc
  have hf := hr.frozen i (by have := HL.out; omega)
  clear hr hg hE hK hcap hcap2 hcv
  have hlt0 : (i : Int) < 24 := by omega
  have hi00 : (0 : Int) ≤ i := by omega
  by_cases heq : T[i] = c
  · subst heq
    go_wp2_with fail
    go_ret
    exact ⟨rfl, G.out⟩
  have hne : T[i] ≠ c := heq
  have hnn : ¬ ((T[i].toNat : Int) = (c.toNat : Int)) := fun h => heq (UInt8.toNat_inj.1 (by omega))
  clear heq hlt0 hi00
  have hlt : (i : Int) < 24 := by omega
  have hi0 : (0 : Int) ≤ i := by omega
  go_upto_region 11 with fail
  clear hc hf
  have gs : World.grownBy u4 (u4.setCell ⟨R, i, none⟩ (.int .u8 (c.toNat : Int))) (some R) := Lib.grownBy_setB (World.grownBy.refl u4 (some R)) i (u8v c)
  have rs : Row (u4.setCell ⟨R, i, none⟩ (.int .u8 (c.toNat : Int))) R (T.set i c) := RR.out.set i c
  have g2 := grown_own G.out gs (fun n hn => by cases hn; exact ER.out.1)
  have bk := B_h.out.kept gs (by have := ER.out.2; simp; omega)
  replace G := Lib.hid g2
  replace B_h := Lib.hid bk
  clear gs g2 bk RR
  generalize u4.setCell ⟨R, i, none⟩ (.int .u8 (c.toNat : Int)) = u5 at *
  have ht2 : (T.set i c).length = 24 := by rw [List.length_set]; exact HL.out
  have hbt : Bts u5 (.slice (some ⟨R, 0, none⟩) (T.set i c).length cp) (T.set i c) := .inr (.inl ⟨R, 0, cp, rfl, by rw [ht2]; exact CAP.out.1, CAP.out.2, rs.cells⟩)
  have hst := hbt.str und22 und5 und9
  rw [ht2] at hst
  have HD := Lib.hid (fun w => Dec_any (T.set i c) w (by rw [ht2]; unfold maxLen; omega))
  have key : Hid (((i : Int) < 4 ∧ (hDec fnv (T.set i c)).2 = 4) ∨ (4 ≤ (i : Int) ∧ 16 ≤ (i : Int) ∧ (hDec fnv (T.set i c)).2 = 4) ∨ (4 ≤ (i : Int) ∧ (i : Int) < 16 ∧ (hDec fnv (T.set i c)).2 = 4) ∨ (4 ≤ (i : Int) ∧ (i : Int) < 16 ∧ (hDec fnv (T.set i c)).2 = 0 ∧ (hDec fnv (T.set i c)).1 ≠ ⟨a1, a2, a3⟩)) := Lib.hid (by
    by_cases h1 : i < 4
    · exact .inl ⟨by omega, hBN.out hne (.inl h1)⟩
    · by_cases h2 : 16 ≤ i
      · exact .inr (.inl ⟨by omega, by omega, hBN.out hne (.inr h2)⟩)
      · rcases hDec_err (T.set i c) with h3 | h3
        · exact .inr (.inr (.inr ⟨by omega, by omega, h3, fun h4 => hBO.out hne (Prod.ext h4 h3)⟩))
        · exact .inr (.inr (.inl ⟨by omega, by omega, h3⟩)))
  clear hbt ht2 rs hBN hBO
  obtain ⟨q, hq⟩ : ∃ q, hDec fnv (T.set i c) = q := ⟨_, rfl⟩
  rw [hq] at HD key
  clear hq
  obtain ⟨⟨g1, g2, g3⟩, f⟩ := q
  dsimp only at key
  generalize T.set i c = T2 at *
  have c_h0 := B_h.out.cell (i := 0) (x := .int .i64 a1) rfl
  have c_h1 := B_h.out.cell (i := 1) (x := .int .i64 a2) rfl
  have c_h2 := B_h.out.cell (i := 2) (x := .int .i64 a3) rfl
  go_wp2_with fail
  clear c_h0 c_h1 c_h2
  refine (HD.out _).mono ?_; rintro e u7 ⟨rfl, hg⟩
  replace G := Lib.hid (World.grownBy.trans G.out hg)
  replace B_h := Lib.hid (B_h.out.new hg)
  clear hg
  try unfold hnV
  go_upto_region 12 with fail
  have hb := Blk.made u7 23 #[.int .i64 g1, .int .i64 g2, .int .i64 g3]
  have hg := World.grownBy_alloc u7 (.cells #[.int .i64 g1, .int .i64 g2, .int .i64 g3] 23) none
  replace G := Lib.hid (World.grownBy.trans G.out hg)
  replace B_h := Lib.hid (B_h.out.new hg)
  generalize u7.alloc (.cells #[.int .i64 g1, .int .i64 g2, .int .i64 g3] 23) = u8 at *
  generalize u7.heap.size = K_g at *
  have B_g := Lib.hid hb
  clear hb hg
  have c_h0 := B_h.out.cell (i := 0) (x := .int .i64 a1) rfl
  have c_h1 := B_h.out.cell (i := 1) (x := .int .i64 a2) rfl
  have c_h2 := B_h.out.cell (i := 2) (x := .int .i64 a3) rfl
  have c_g0 := B_g.out.cell (i := 0) (x := .int .i64 g1) rfl
  have c_g1 := B_g.out.cell (i := 1) (x := .int .i64 g2) rfl
  have c_g2 := B_g.out.cell (i := 2) (x := .int .i64 g3) rfl
  rcases key.out with ⟨k1, rfl⟩ | ⟨k1, k2, rfl⟩ | ⟨k1, k2, rfl⟩ | ⟨k1, k2, rfl, k3⟩
  · skip
    go_wp2_with fail
    go_ret
    exact ⟨rfl, G.out⟩
  · skip
    go_wp2_with fail
    go_ret
    exact ⟨rfl, G.out⟩
  · skip
    go_wp2_with fail
    go_ret
    exact ⟨rfl, G.out⟩
  · rcases parts _ _ k3 with q1 | ⟨q0, q1⟩ | ⟨q0, q2, q1⟩
    all_goals
      clear k3
      dsimp only at *
      go_wp2_with fail
      go_ret
      exact ⟨rfl, G.out⟩

theorem bit_walk (a : Hn) (at_ : Int) (_ : (Lit.int IntKind.i64 at_).wf = true) (c : Int) (wc : (Lit.int IntKind.u8 c).wf = true) (w : World) : Calls Try.prog 6 #[hnV a, .int .i64 at_, .int .u8 c] w (OK w) := by
  have hc : 0 ≤ c ∧ c < 256 := by
    simp [Lit.wf, IntKind.min, IntKind.max, IntKind.signed, IntKind.bits] at wc
    omega
  obtain ⟨x, rfl⟩ : ∃ x : UInt8, c = (x.toNat : Int) := ⟨UInt8.ofNat c.toNat, by rw [UInt8.toNat_ofNat']; omega⟩
  by_cases ha : hMay a
  · exact bit_in a at_ x w ha
  · exact bit_no a at_ x w ha
end Go.Proofs.Ytcifhjocmlalmaa
