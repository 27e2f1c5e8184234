/- The document's answers of layer 1: the reader's Fixed and Text. -/
import Derived.Test.YtpklgcinijlmmaaRefS
namespace Go.Proofs.Ytpklgcinijlmmaa
open Go.RowKit

set_option maxRecDepth 20000 in
set_option maxHeartbeats 1000000 in
theorem refFixed_no (r : Nat) (g : Option Nat) (s : St) (n : Int) (w : World) (hr : RRdrS w r g s) (h : s = none ∨ n < 0 ∨ ((s.getD []).length : Int) < n) :
    Calls Try.prog 94 #[.pointer (some ⟨r, 0, none⟩), .int .i64 n] w (RRd w r g (.string ⟨#[]⟩) none) := by
  have HF := Lib.hid (refFail_s r g s w hr)
  obtain ⟨v, ht, hv, _⟩ := hr
  obtain ⟨a, c, rfl, hl, hm⟩ := hv.form
  have c0 := ht.c0
  have c1 := ht.c1
  have hm2 : (s.getD []).length ≤ 9223372036854775807 := by unfold maxLen at hm; omega
  clear ht hv hl hm
  have fin : s = none ∨ (s ≠ none ∧ n < 0) ∨ (s ≠ none ∧ 0 ≤ n ∧ ((s.getD []).length : Int) < n) := by
    by_cases hs : s = none
    · exact .inl hs
    · by_cases hn : n < 0
      · exact .inr (.inl ⟨hs, hn⟩)
      · rcases h with h | h | h
        · exact absurd h hs
        · exact absurd h hn
        · exact .inr (.inr ⟨hs, by omega, h⟩)
  clear h
  generalize (s.getD []).length = l at *
  rcases fin with rfl | ⟨hs, hn⟩ | ⟨hs, hn, hln⟩
  · simp only [Option.isNone_none] at c1
    go_enter Try.func94, Try.ntmps94
    go_wp2_with fail
    refine HF.out.mono ?_; rintro e w2 ⟨rfl, h2, h3⟩
    have H2 := Lib.hid h2; have H3 := Lib.hid h3; clear h2 h3
    go_wp2_with fail
    go_ret
    exact ⟨rfl, H2.out, H3.out⟩
  · obtain ⟨bs, rfl⟩ := Option.ne_none_iff_exists'.1 hs
    simp only [Option.isNone_some] at c1
    clear hs
    have hd : decide (n < 0) = true := by rw [decide_eq_true_iff]; exact hn
    go_enter Try.func94, Try.ntmps94
    go_wp2_with fail
    refine HF.out.mono ?_; rintro e w2 ⟨rfl, h2, h3⟩
    have H2 := Lib.hid h2; have H3 := Lib.hid h3; clear h2 h3
    go_wp2_with fail
    go_ret
    exact ⟨rfl, H2.out, H3.out⟩
  · obtain ⟨bs, rfl⟩ := Option.ne_none_iff_exists'.1 hs
    simp only [Option.isNone_some] at c1
    clear hs
    have hd : decide (n < 0) = false := by rw [decide_eq_false_iff_not]; omega
    have hd2 : decide ((l : Int) < n) = true := by rw [decide_eq_true_iff]; exact hln
    go_enter Try.func94, Try.ntmps94
    go_wp2_with fail
    refine HF.out.mono ?_; rintro e w2 ⟨rfl, h2, h3⟩
    have H2 := Lib.hid h2; have H3 := Lib.hid h3; clear h2 h3
    go_wp2_with fail
    go_ret
    exact ⟨rfl, H2.out, H3.out⟩

theorem Bts.cut_hi {P : Program} {t e : TypeId} (ht : P.underlying t = some (.slice e)) (hz : ∀ w, (Go.sizeOf e).run P w = .ok 1 w) {w : World} {v : Value} {bs : List UInt8} (h : Bts w v bs) (k : Nat) (hk : k ≤ bs.length) :
    ∃ v', (∀ w', (Instr.slice t v none (some (.int .i64 (k : Int))) none).run P w' = .ok v' w') ∧ Bts w v' (bs.take k) := by
  rcases h with ⟨rfl, rfl⟩ | ⟨b, o, c, rfl, h1, h2, h3⟩ | ⟨a, rfl, rfl⟩
  rotate_left 2
  · obtain rfl : k = 0 := by simpa using hk
    refine ⟨.slice (some a) 0 0, fun w' => ?_, .inr (.inr ⟨a, rfl, rfl⟩)⟩
    simp [Instr.slice, Instr.sliceBounds, Instr.sliceBound, run_underlying ht, hz, asIntOf, go_sem, Addr.add]
  · obtain rfl : k = 0 := by simpa using hk
    refine ⟨.slice none 0 0, fun w' => ?_, .inl ⟨rfl, rfl⟩⟩
    simp [Instr.slice, Instr.sliceBounds, Instr.sliceBound, run_underlying ht, hz, asIntOf, go_sem]
  · refine ⟨.slice (some ⟨b, o, none⟩) k c, fun w' => ?_, .inr (.inl ⟨b, o, c, by rw [List.length_take, Nat.min_eq_left hk], by rw [List.length_take]; omega, h2, h3.take k⟩)⟩
    have hkc : ¬ c < k := by omega
    simp [Instr.slice, Instr.sliceBounds, Instr.sliceBound, run_underlying ht, hz, asIntOf, go_sem, hkc, Addr.add]

theorem pad_more (n t : Nat) (h : t < pad n) : (n + t) % 4 ≠ 0 := by unfold pad at h; omega

/-- The bytes behind a text: 00 up to j. -/
theorem behind (bs : List UInt8) (n j : Nat) (hp : n + pad n ≤ bs.length) (hj : j < pad n) : ((bs.drop n).take (pad n))[j]'(by simp; omega) = bs[n + j]'(by omega) := by simp

set_option maxRecDepth 10000 in
set_option maxHeartbeats 2000000 in
theorem refFixed_yes (r : Nat) (g : Option Nat) (bs : List UInt8) (n : Nat) (w : World) (hr : RRdrS w r g (some bs)) (hn : n ≤ bs.length) (hm2 : bs.length ≤ 1000000) :
    Calls Try.prog 94 #[.pointer (some ⟨r, 0, none⟩), .int .i64 (n : Int)] w (RRd w r g (.string ⟨(rFixed n (some bs)).1.toArray⟩) (rFixed n (some bs)).2) := by
  have HF := Lib.hid (refFail_s r g _ w hr)
  obtain ⟨v, ht, hv, hne, hgr, _⟩ := hr
  obtain ⟨a, c, rfl, hl, hm⟩ := hv.form
  have c0 := ht.c0
  have c1 := ht.c1
  have f0 := ht.f0
  simp only [Option.isNone_some, Option.getD_some] at *
  have hp := pad_le n
  have HPM := Lib.hid (pad_mod n)
  have HV := Lib.hid hv; have HT := Lib.hid ht; have HNE := Lib.hid hne; have HGR := Lib.hid hgr
  have HC : Hid (0 < bs.length → ∃ gb o, a = some ⟨gb, o, none⟩ ∧ BCells w gb o bs) := Lib.hid (fun h0 => by
    obtain ⟨gb, o, c2, h1, h2⟩ := hv.cell h0
    cases h1
    exact ⟨gb, o, rfl, h2⟩)
  have hd : decide ((n : Int) < 0) = false := by rw [decide_eq_false_iff_not]; omega
  clear ht hv hl hm hne hgr
  generalize hlen : bs.length = l at *
  have HLEN := Lib.hid hlen; clear hlen
  have hd2 : decide ((l : Int) < (n : Int)) = false := by rw [decide_eq_false_iff_not]; omega
  generalize hres : rFixed (n : Int) (some bs) = res
  obtain ⟨tx, sx⟩ := res
  have HRES := Lib.hid hres; clear hres
  go_enter Try.func94, Try.ntmps94
  go_wp2_with fail
  go_loop [5] (fun i => ∃ t : Nat, t ≤ pad n ∧ i = .int .i64 ((n + t : Nat) : Int)) (fun i => n + 4 - (intOf i).toNat)
  case atStart => exact ⟨0, Nat.zero_le _, by go_num⟩
  case round =>
    obtain ⟨t, ht, rfl⟩ := hrel
    by_cases hlt : t < pad n
    · have hb : (((n + t : Nat) : Int) % 4 != 0) = true := by rw [bne_iff_ne]; have := pad_more n t hlt; omega
      have HK : Hid (n + t + 1 = n + (t + 1)) := Lib.hid (by omega)
      have hk : n + t ≤ n + 2 := by omega
      have hk2 : n ≤ n + t := by omega
      clear c0 c1 f0
      generalize n + t = k at *
      go_wp2
      go_round
      case rel => exact ⟨t + 1, by omega, by rw [← HK.out]; go_num⟩
      case measure => simp [intOf]; omega
    · obtain rfl : t = pad n := by omega
      have hb : (((n + pad n : Nat) : Int) % 4 != 0) = false := by rw [bne_eq_false_iff_eq]; have := HPM.out; omega
      clear hlt ht
      by_cases hfar : l < n + pad n
      · have he : rFixed (n : Int) (some bs) = ([], none) := if_neg (by
          have := HLEN.out
          rintro ⟨_, h2, _⟩
          rw [Int.toNat_natCast] at h2
          omega)
        obtain ⟨rfl, rfl⟩ := Prod.mk.inj (HRES.out.symm.trans he)
        clear HRES
        have hd3 : decide ((l : Int) < ((n + pad n : Nat) : Int)) = true := by rw [decide_eq_true_iff]; omega
        clear he
        generalize n + pad n = k at *
        go_wp2_with fail
        refine HF.out.mono ?_; rintro e w2 ⟨rfl, h2, h3⟩
        have H2 := Lib.hid h2; have H3 := Lib.hid h3; clear h2 h3
        go_wp2_with fail
        go_ret
        exact ⟨rfl, H2.out, H3.out⟩
      · have hd3 : decide ((l : Int) < ((n + pad n : Nat) : Int)) = false := by rw [decide_eq_false_iff_not]; omega
        by_cases hz : zeros ((bs.drop n).take (pad n))
        · have he : rFixed (n : Int) (some bs) = (bs.take n, some (bs.drop (n + pad n))) := if_pos (by
            have := HLEN.out
            exact ⟨by omega, by rw [Int.toNat_natCast]; omega, by rw [Int.toNat_natCast]; exact hz⟩)
          obtain ⟨rfl, rfl⟩ := Prod.mk.inj (HRES.out.symm.trans he)
          clear he HRES
          have hlb := HLEN.out
          obtain ⟨v1, e1, b1⟩ := HV.out.cut_hi und22 siz5 n (by omega)
          obtain ⟨v2, e2, b2, o2⟩ := HV.out.cut_lo und22 siz5 (n + pad n) (by omega)
          have hs := b1.str und22 und5 und9
          obtain ⟨a1, n1, c1', rfl⟩ := b1.shape
          obtain ⟨a2, n2, c2, rfl⟩ := b2.shape
          have HT2 := Lib.hid (HT.out.set0 (.slice a2 n2 c2)); have HB2 := Lib.hid b2; have HO2 := Lib.hid o2
          have CT : Hid (∀ t, t < pad n → ∃ gb o, a = some ⟨gb, o, none⟩ ∧ w.cell? ⟨gb, o + (n + t), none⟩ = some (.int .u8 0)) := Lib.hid (fun t ht => by
            obtain ⟨gb, o, rfl, hcs⟩ := HC.out (by omega)
            refine ⟨gb, o, rfl, ?_⟩
            have h1 := hz t (by simp; omega)
            rw [behind bs n t (by omega) ht] at h1
            rw [hcs (n + t) (by omega), h1]
            rfl)
          clear hz b1 b2 o2 hlb
          have HP := Lib.hid hp
          have hkl : n + pad n ≤ l := by omega
          have hnk : n ≤ n + pad n := by omega
          have HKP : Hid (∀ t, t < pad n → n + t < n + pad n) := Lib.hid (fun t ht => by omega)
          have HX : Hid (n + pad n ≤ n + pad n) := Lib.hid (Nat.le_refl _)
          generalize hq : pad n = q at *
          have HQ := Lib.hid hq; clear hq
          generalize hk : n + q = k at *
          have HKQ := Lib.hid hk; clear hk
          go_wp2_with fail
          go_loop [6] (fun i => ∃ t : Nat, t ≤ q ∧ i = .int .i64 ((n + t : Nat) : Int)) (fun i => k - (intOf i).toNat)
          case atStart => exact ⟨0, Nat.zero_le _, by go_num⟩
          case round =>
            obtain ⟨t, ht, rfl⟩ := hrel
            by_cases hlt : t < q
            · obtain ⟨gb, o, rfl, hc⟩ := CT.out t hlt
              have HK : Hid (n + t + 1 = n + (t + 1)) := Lib.hid (by omega)
              have hk1 : n + t < k := HKP.out t hlt
              clear hs e1 e2
              generalize n + t = i at *
              go_wp2
              go_round
              case rel => exact ⟨t + 1, by omega, by rw [← HK.out]; go_num⟩
              case measure => simp [intOf]; omega
            · obtain rfl : t = q := by omega
              rw [HKQ.out]
              clear hlt ht CT
              go_wp2_with fail
              go_ret
              have hg : w.grownBy (w.setCell ⟨r, 0, none⟩ (.slice a2 n2 c2)) (some r) := Lib.grownBy_setB (World.grownBy.refl _ _) 0 _
              have own : ((Value.slice a2 n2 c2).ownBlock = none ∨ (Value.slice a2 n2 c2).ownBlock = g) := by
                rcases HO2.out with h | h
                · exact .inl h
                · rw [h]; exact HNE.out
              refine ⟨rfl, ⟨_, HT2.out, HB2.out.kept hg ?_, own, HGR.out, fun h => by cases h⟩, hg⟩
              rcases own with h | h
              · exact .inl h
              · exact .inr (by rw [h]; exact HGR.out)
        · have he : rFixed (n : Int) (some bs) = ([], none) := if_neg (by
            rintro ⟨_, _, h2⟩
            rw [Int.toNat_natCast] at h2
            exact hz h2)
          obtain ⟨rfl, rfl⟩ := Prod.mk.inj (HRES.out.symm.trans he)
          clear he HRES
          obtain ⟨j, hjl, hz0, hzj⟩ := firstBad_of _ hz
          have hjp : j < pad n := by simp at hjl; omega
          have hlb := HLEN.out
          have HZ0 : Hid (∀ t, t < j → bs[n + t]? = some 0) := Lib.hid (fun t ht => by
            have := hz0 t (by simp; omega) ht
            rw [behind bs n t (by omega) (by omega)] at this
            rw [List.getElem?_eq_getElem (by omega), this])
          have hy : ∃ y, bs[n + j]? = some y ∧ ((y.toNat : Int) != 0) = true := by
            rw [behind bs n j (by omega) (by omega)] at hzj
            refine ⟨_, List.getElem?_eq_getElem (by omega), ?_⟩
            rw [bne_iff_ne]
            intro h
            exact hzj (UInt8.toNat_inj.1 (by simpa using h))
          obtain ⟨y, hy1, hy2⟩ := hy
          obtain ⟨gb, o, rfl, hcs⟩ := HC.out (by omega)
          have cell : ∀ i y, bs[i]? = some y → w.cell? ⟨gb, o + i, none⟩ = some (.int .u8 (y.toNat : Int)) := fun i y hi => by
            obtain ⟨h1, rfl⟩ := List.getElem?_eq_some_iff.1 hi
            exact hcs i h1
          have CJ : Hid (w.cell? ⟨gb, o + (n + j), none⟩ = some (.int .u8 (y.toNat : Int))) := Lib.hid (cell _ _ hy1)
          have CT : Hid (∀ t, t < j → w.cell? ⟨gb, o + (n + t), none⟩ = some (.int .u8 0)) := Lib.hid (fun t ht => cell _ _ (HZ0.out t ht))
          clear hz hjl hz0 hzj HZ0 hy1 hcs cell hlb
          generalize y.toNat = y at *
          have HKP : Hid (n + j < n + pad n) := Lib.hid (by omega)
          have hkl : n + pad n ≤ l := by omega
          generalize n + pad n = k at *
          go_wp2_with fail
          go_loop [6] (fun i => ∃ t : Nat, t ≤ j ∧ i = .int .i64 ((n + t : Nat) : Int)) (fun i => n + j - (intOf i).toNat)
          case atStart => exact ⟨0, Nat.zero_le _, by go_num⟩
          case round =>
            obtain ⟨t, ht, rfl⟩ := hrel
            have hkp := HKP.out
            by_cases hlt : t < j
            · have hc := CT.out t hlt
              have HK : Hid (n + t + 1 = n + (t + 1)) := Lib.hid (by omega)
              have hk1 : n + t < k := by omega
              have HM : Hid (n + t < n + j) := Lib.hid (by omega)
              clear hkp hy2
              generalize n + t = i at *
              go_wp2
              go_round
              case rel => exact ⟨t + 1, by omega, by rw [← HK.out]; go_num⟩
              case measure => have := HM.out; simp [intOf]; omega
            · obtain rfl : t = j := by omega
              have hc := CJ.out
              clear hlt ht CJ CT HKP
              generalize n + t = i at *
              go_wp2_with fail
              refine HF.out.mono ?_; rintro e w2 ⟨rfl, h2, h3⟩
              have H2 := Lib.hid h2; have H3 := Lib.hid h3; clear h2 h3
              go_wp2_with fail
              go_ret
              exact ⟨rfl, H2.out, H3.out⟩

theorem refFixed_s (r : Nat) (g : Option Nat) (s : St) (n : Int) (w : World) (hr : RRdrS w r g s) (hb : (s.getD []).length ≤ 1000000) :
    Calls Try.prog 94 #[.pointer (some ⟨r, 0, none⟩), .int .i64 n] w (RRd w r g (.string ⟨(rFixed n s).1.toArray⟩) (rFixed n s).2) := by
  match s, hr, hb with
  | none, hr, _ => exact refFixed_no r g none n w hr (.inl rfl)
  | some bs, hr, hb =>
    by_cases h0 : 0 ≤ n
    · obtain ⟨k, rfl⟩ := Int.eq_ofNat_of_zero_le h0
      by_cases h1 : k ≤ bs.length
      · exact refFixed_yes r g bs k w hr h1 hb
      · have he : rFixed (k : Int) (some bs) = ([], none) := if_neg (by rintro ⟨_, h2, _⟩; rw [Int.toNat_natCast] at h2; omega)
        rw [he]
        exact refFixed_no r g _ k w hr (.inr (.inr (by show ((bs.length : Nat) : Int) < _; omega)))
    · have he : rFixed n (some bs) = ([], none) := if_neg (by rintro ⟨h2, _⟩; omega)
      rw [he]
      exact refFixed_no r g _ n w hr (.inr (.inl (by omega)))

theorem rCount_len (m : Int) (s : St) : (((rCount m s).2).getD []).length ≤ (s.getD []).length := by
  unfold rCount
  split
  · split
    · simp; omega
    · simp
  · simp

set_option maxRecDepth 20000 in
set_option maxHeartbeats 1000000 in
theorem refText_s (r : Nat) (g : Option Nat) (s : St) (m : Int) (w : World) (hr : RRdrS w r g s) (hb : (s.getD []).length ≤ 1000000) :
    Calls Try.prog 52 #[.pointer (some ⟨r, 0, none⟩), .int .i64 m] w (RRd w r g (.string ⟨(rText m s).1.toArray⟩) (rText m s).2) := by
  have HC := Lib.hid (fun m => refCount_s r g s m w hr)
  have HL := Lib.hid (fun m => Nat.le_trans (rCount_len m s) hb)
  clear hr hb
  have fin : (0 < m ∧ max m 0 = m) ∨ (m ≤ 0 ∧ max m 0 = 0) := by omega
  rcases fin with ⟨h0, hx⟩ | ⟨h0, hx⟩
  · unfold rText
    rw [hx]
    clear hx
    have HC := Lib.hid (HC.out m)
    have HL := Lib.hid (HL.out m)
    generalize rCount m s = p at *
    obtain ⟨n, st⟩ := p
    cases st with
    | none =>
      go_enter Try.func52, Try.ntmps52
      go_wp2_with fail
      refine HC.out.mono ?_; rintro e w2 ⟨rfl, h2, h3⟩
      have hb := h2.bad
      simp only [Option.isNone_none] at hb
      have H2 := Lib.hid h2; have H3 := Lib.hid h3; clear h2 h3
      go_wp2_with fail
      go_ret
      exact ⟨rfl, H2.out, H3.out⟩
    | some l =>
      go_enter Try.func52, Try.ntmps52
      go_wp2_with fail
      refine HC.out.mono ?_; rintro e w2 ⟨rfl, h2, h3⟩
      have hb := h2.bad
      simp only [Option.isNone_some] at hb
      have HX := Lib.hid (refFixed_s r g _ n w2 h2 HL.out)
      have H3 := Lib.hid h3; clear h2 h3
      go_wp2_with fail
      refine HX.out.mono ?_; rintro e w3 ⟨rfl, h2, h3⟩
      have H4 := Lib.hid h2; have H5 := Lib.hid h3; clear h2 h3
      go_wp2_with fail
      go_ret
      exact ⟨rfl, H4.out, World.grownBy.trans H3.out H5.out⟩
  · unfold rText
    rw [hx]
    clear hx
    have HC := Lib.hid (HC.out 0)
    have HL := Lib.hid (HL.out 0)
    generalize rCount 0 s = p at *
    obtain ⟨n, st⟩ := p
    cases st with
    | none =>
      go_enter Try.func52, Try.ntmps52
      go_wp2_with fail
      refine HC.out.mono ?_; rintro e w2 ⟨rfl, h2, h3⟩
      have hb := h2.bad
      simp only [Option.isNone_none] at hb
      have H2 := Lib.hid h2; have H3 := Lib.hid h3; clear h2 h3
      go_wp2_with fail
      go_ret
      exact ⟨rfl, H2.out, H3.out⟩
    | some l =>
      go_enter Try.func52, Try.ntmps52
      go_wp2_with fail
      refine HC.out.mono ?_; rintro e w2 ⟨rfl, h2, h3⟩
      have hb := h2.bad
      simp only [Option.isNone_some] at hb
      have HX := Lib.hid (refFixed_s r g _ n w2 h2 HL.out)
      have H3 := Lib.hid h3; clear h2 h3
      go_wp2_with fail
      refine HX.out.mono ?_; rintro e w3 ⟨rfl, h2, h3⟩
      have H4 := Lib.hid h2; have H5 := Lib.hid h3; clear h2 h3
      go_wp2_with fail
      go_ret
      exact ⟨rfl, H4.out, World.grownBy.trans H3.out H5.out⟩
end Go.Proofs.Ytpklgcinijlmmaa
