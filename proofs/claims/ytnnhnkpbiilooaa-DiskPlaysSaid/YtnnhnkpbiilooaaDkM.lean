/- disk: count, Flush, Write. -/
import Derived.Test.YtnnhnkpbiilooaaDkL
namespace Go.Proofs.Ytnnhnkpbiilooaa
open Go.RowKit Go.Maps

theorem DS.count_0 {s : DS} (h : s.lf = 0) : s.count = (s, 0) := by unfold DS.count; rw [if_pos h]
theorem DS.count_1 {s : DS} (h : s.lf = 1) : s.count = (s.gone s.kp, 51) := by unfold DS.count; rw [if_neg (by omega), if_pos h]
theorem DS.count_n {s : DS} (h : 1 < s.lf) : s.count = ({ s with lf := s.lf - 1 }, 0) := by unfold DS.count; rw [if_neg (by omega), if_neg (by omega)]

set_option maxRecDepth 20000 in
set_option maxHeartbeats 1000000 in
theorem count_any {w : World} {base : Nat} {F : Foot} {s : DS} (h : Dk w base F s) (hm : s.m ≤ 1000000000) (hd : s.dd = false) : Calls Try.prog 34 #[dptr F.p] w (Does w base F s.count.1 s.count.2) := by
  obtain ⟨kv, hkf, h1, hkv⟩ := h.kvx
  have HKF := Lib.hid hkf
  clear hkf
  have H := Lib.hid h
  have HM := Lib.hid hm
  have HD := Lib.hid hd
  have HB := Lib.hid h1
  have HKV := Lib.hid hkv
  have c4 := h1.cell (i := 4) (x := .int .i64 (s.lf : Int)) rfl
  have f4 := h1.frozen 4
  rcases Nat.lt_trichotomy s.lf 1 with hl | hl | hl
  · have hl : s.lf = 0 := by omega
    rw [DS.count_0 hl]
    rw [hl] at c4
    clear h h1 hkv hm hd hl
    unfold dptr
    go_enter Try.func34, Try.ntmps34
    go_wp2_with fail
    go_ret
    exact H.out.does 0
  · rw [DS.count_1 hl]
    rw [hl] at c4
    have S4 := Lib.hid (h1.set 4 (.int .i64 0))
    have g4 := h1.setG 4 (.int .i64 0)
    have k4 := S4.out.cell (i := 4) (x := .int .i64 0) rfl
    have k5 := S4.out.cell (i := 5) (x := kv) rfl
    obtain ⟨ak, nk, ck, hkv'⟩ : ∃ a n c, kv = .slice a n c := by
      obtain ⟨a, c, e, _⟩ := hkv.bls.shape
      exact ⟨_, _, _, e⟩
    have K4 : Kept (· = F.p) w (w.setCell ⟨F.p, 4, none⟩ (.int .i64 0)) := Kept.of g4 (fun k e => .inl (by cases e; rfl))
    have hkb : BlsT (w.setCell ⟨F.p, 4, none⟩ (.int .i64 0)) kv s.kp := K4.own hkv (fun k e hs => by
      have hs : k = F.p := hs
      subst hs
      obtain ⟨cs, hw⟩ := hkv.kind e
      exact Blk.ne (show Blk w F.p 4 cs from hw) h1 (by decide) rfl)
    have hT : Hid (Dk _ base F _) := Lib.hid (by rw [show F = { F with kv := kv } from by rw [← HKF.out]]; exact h.turn (lf := 0) (kv := kv) (kp := s.kp) (dd := s.dd) S4.out hkb K4 (by simp))
    have HKB := Lib.hid hkb.bls
    have HK4 := Lib.hid K4
    rw [hkv'] at k5 HKB
    have hgo : ({ s with lf := 0, kp := s.kp, dd := s.dd } : DS).gone s.kp = s.gone s.kp := rfl
    have HGO := Lib.hid hgo
    clear h h1 hkv hm hd hl K4 hkb g4 hkv' hgo
    unfold dptr
    go_enter Try.func34, Try.ntmps34
    go_wp2_with fail
    refine (Fail_live hT.out HM.out HD.out HKB.out).mono ?_; rintro e w2 ⟨F2, rfl, hp2, h2, h3, h4⟩
    rw [HGO.out] at h2
    have H2 := Lib.hid (And.intro hp2 (And.intro h2 (And.intro h3 h4)))
    clear hp2 h2 h3 h4
    go_wp2_with fail
    go_ret
    obtain ⟨hp2, h2, h3, h4⟩ := H2.out
    refine ⟨F2, rfl, hp2, h2, (HK4.out.more (T := F.has) (fun k e _ => .inl e)).trans h3, fun k => ⟨fun hk => ((h4 k).1 hk).imp id (fun h => Nat.le_trans HK4.out.size h), fun hk => ((h4 k).2 hk).imp id (fun h => Nat.le_trans HK4.out.size h)⟩⟩
  · rw [DS.count_n hl]
    have S4 := Lib.hid (h1.set 4 (.int .i64 ((s.lf : Int) - 1)))
    have g4 := h1.setG 4 (.int .i64 ((s.lf : Int) - 1))
    have k4 := S4.out.cell (i := 4) (x := .int .i64 ((s.lf : Int) - 1)) rfl
    have K4 : Kept (· = F.p) w (w.setCell ⟨F.p, 4, none⟩ (.int .i64 ((s.lf : Int) - 1))) := Kept.of g4 (fun k e => .inl (by cases e; rfl))
    have hkb : BlsT (w.setCell ⟨F.p, 4, none⟩ (.int .i64 ((s.lf : Int) - 1))) kv s.kp := K4.own hkv (fun k e hs => by
      have hs : k = F.p := hs
      subst hs
      obtain ⟨cs, hw⟩ := hkv.kind e
      exact Blk.ne (show Blk w F.p 4 cs from hw) h1 (by decide) rfl)
    have e1 : ((s.lf - 1 : Nat) : Int) = (s.lf : Int) - 1 := by omega
    have z2 := h.hl
    have hT : Hid (Dk _ base F _) := Lib.hid (by rw [show F = { F with kv := kv } from by rw [← HKF.out]]; exact h.turn (lf := s.lf - 1) (kv := kv) (kp := s.kp) (dd := s.dd) (by rw [e1]; exact S4.out) hkb K4 (by omega))
    have HK4 := Lib.hid K4
    have z1 : 1 < (s.lf : Int) := by omega
    clear h h1 hkv hm hd hl K4 hkb g4 e1
    unfold dptr
    go_enter Try.func34, Try.ntmps34
    go_wp2_with fail
    go_ret
    exact ⟨F, rfl, rfl, hT.out, HK4.out.more (T := F.has) (fun k e _ => .inl e), fun _ => ⟨.inl, .inl⟩⟩

set_option maxRecDepth 20000 in
theorem Flush_nil (w : World) : Calls Try.prog 18 #[.pointer none] w (Tells w 2) := by
  go_enter Try.func18, Try.ntmps18
  go_wp2_with (refine (live_nil _).mono ?_; rintro e w' ⟨rfl, rfl⟩)
  go_ret
  exact ⟨rfl, rfl⟩

theorem DS.flush_dead {s : DS} (h : s.dd = true) : s.flush = (s, 51) := by unfold DS.flush; rw [if_pos h]
theorem DS.flush_1 {s : DS} (hd : s.dd = false) (h : s.lf = 1) : s.flush = (s.gone s.kp, 51) := by unfold DS.flush; rw [if_neg (by rw [hd]; simp), if_pos h]
theorem DS.flush_n {s : DS} (hd : s.dd = false) (h : s.lf ≠ 1) : s.flush = (s.count.1.settle, 0) := by unfold DS.flush; rw [if_neg (by rw [hd]; simp), if_neg h]
theorem DS.count_on {s : DS} (h : s.lf ≠ 1) : s.count.2 = 0 ∧ s.count.1.m = s.m ∧ s.count.1.dd = s.dd := by
  rcases Nat.lt_trichotomy s.lf 1 with hl | hl | hl
  · rw [DS.count_0 (by omega)]; exact ⟨rfl, rfl, rfl⟩
  · exact absurd hl h
  · rw [DS.count_n hl]; exact ⟨rfl, rfl, rfl⟩

set_option maxRecDepth 20000 in
set_option maxHeartbeats 1000000 in
theorem Flush_any {w : World} {base : Nat} {F : Foot} {s : DS} (h : Dk w base F s) (hm : s.m ≤ 1000000000) : Calls Try.prog 18 #[dptr F.p] w (Does w base F s.flush.1 s.flush.2) := by
  have HL := Lib.hid (live_any h)
  have H := Lib.hid h
  have HM := Lib.hid hm
  rcases hd : s.dd with _ | _
  rotate_left 1
  · rw [DS.flush_dead hd]
    rw [DS.live_t hd] at HL
    clear h hm hd
    unfold dptr at *
    go_enter Try.func18, Try.ntmps18
    go_wp2_with (refine HL.out.mono ?_; rintro e w' ⟨rfl, rfl⟩)
    go_ret
    exact H.out.does 51
  rw [DS.live_f hd] at HL
  have HC := Lib.hid (count_any h hm hd)
  by_cases hl : s.lf = 1
  · rw [DS.flush_1 hd hl]
    rw [DS.count_1 hl] at HC
    clear h hm hd hl
    unfold dptr at *
    go_enter Try.func18, Try.ntmps18
    go_wp2_with (first
      | (refine HL.out.mono ?_; rintro e w' ⟨rfl, rfl⟩)
      | (refine HC.out.mono ?_; rintro e w2 ⟨F2, rfl, hp2, h2, h3, h4⟩; have H2 := Lib.hid (And.intro hp2 (And.intro h2 (And.intro h3 h4))); clear hp2 h2 h3 h4))
    go_ret
    obtain ⟨hp2, h2, h3, h4⟩ := H2.out
    exact ⟨F2, rfl, hp2, h2, h3, h4⟩
  · rw [DS.flush_n hd hl]
    obtain ⟨e1, e2, _⟩ := DS.count_on hl
    rw [e1] at HC
    have hm2 : s.count.1.m ≤ 1000000000 := by rw [e2]; exact hm
    generalize s.count.1 = s1 at *
    have HM2 := Lib.hid hm2
    clear h hm hd hl e1 e2 hm2
    unfold dptr at *
    go_enter Try.func18, Try.ntmps18
    go_upto_region 7 with (first
      | (go_at_call 35; refine HL.out.mono ?_; rintro e w' ⟨rfl, rfl⟩)
      | (go_at_call 34; refine HC.out.mono ?_; rintro e w2 ⟨F2, rfl, hp2, h2, h3, h4⟩; have H2 := Lib.hid h2; have H3 := Lib.hid h3; have H4 := Lib.hid h4; have HP := Lib.hid hp2; clear hp2 h2 h3 h4))
    obtain ⟨kv, hkf, h1, hkv⟩ := H2.out.kvx
    have HKF := Lib.hid hkf
    clear hkf
    rw [HP.out] at h1
    obtain ⟨c, hc1, hc2⟩ := H2.out.c
    have HB := Lib.hid h1
    have HKV := Lib.hid hkv
    have HMP := Lib.hid hc1
    have HC2 := Lib.hid hc2
    obtain ⟨ak, nk, ck, hkv'⟩ : ∃ a n c, kv = .slice a n c := by
      obtain ⟨a, c, e, _⟩ := hkv.bls.shape
      exact ⟨_, _, _, e⟩
    have c1 := h1.cell (i := 1) (x := .map (some F2.m1)) rfl
    have c3 := h1.cell (i := 3) (x := .map (some F2.m2)) rfl
    clear h1 hkv hc1 hc2
    have dr : w2.grownBy w2.drew none := ⟨rfl, rfl, rfl, Nat.le_refl _, fun _ _ _ => rfl⟩
    go_still_tail 8, (by kernel_rfl)
    change wpList _ _ _ _ _ w2.drew
    have hcp := copyMp_any (HMP.out.new dr) (H2.out.nw.new dr) H2.out.ne (by have := HC2.out; have := HM2.out; omega)
    have HCP := Lib.hid hcp
    have DR := Lib.hid dr
    clear hcp dr c1 c3
    go_wp2_with fail
    refine HCP.out.mono ?_; rintro e w3 ⟨rfl, hm3, hk3⟩
    rw [over_nwOf] at hm3
    have HM3 := Lib.hid hm3
    have HK3 : Hid (Kept (· = F2.m1) w2 w3) := Lib.hid ((Kept.new DR.out).trans hk3)
    clear hm3 hk3
    have hb3 := HK3.out.blk HB.out (fun e => (HMP.out.ne HB.out) e.symm)
    obtain ⟨aw, cw, hwv, _, _⟩ := H2.out.wr.form
    have HB3 := Lib.hid hb3
    have HNE := Lib.hid (HMP.out.ne HB.out)
    clear hb3
    go_wp2_with fail
    refine (forget_any HB3.out _ _ _ hwv _ rfl).mono ?_; rintro e w5 ⟨m5, rfl, hb5, hm5, hk5, hge5⟩
    have B5 := Lib.hid hb5
    have M5 := Lib.hid hm5
    have K5 := Lib.hid hk5
    have GE5 := Lib.hid hge5
    clear hb5 hm5 hk5 hge5
    go_wp2_with fail
    go_ret
    have hkb : BlsT w5 kv s1.kp := by
      have k3 : BlsT w3 kv s1.kp := HK3.out.own HKV.out (fun k e hs => by
        obtain ⟨cs, hw⟩ := HKV.out.kind e
        exact HMP.out.ne hw hs.symm)
      exact K5.out.own k3 (fun k e hs => by
        have hs : k = F.p := hs
        subst hs
        obtain ⟨cs, hw⟩ := k3.kind e
        exact Blk.ne (show Blk w3 F.p 4 cs from hw) HB3.out (by decide) rfl)
    have hlt := HM3.out.lt
    refine ⟨⟨F.p, F2.m1, m5, .slice none 0 0, kv⟩, rfl, rfl, ⟨⟨B5.out, hkb⟩, ⟨_, K5.out.mp HM3.out HNE.out, ?_⟩, M5.out, Wr.nil _ _, fun e => ?_, H.out.bp, H2.out.b1, ?_, H2.out.hn, H2.out.hl, by simp [DS.settle]⟩, ?_, ?_⟩
    · have := HC2.out
      show _ + 0 ≤ s1.m
      omega
    · have := GE5.out; have e : F2.m1 = m5 := e; omega
    · have h1 := GE5.out; have h2 := HK3.out.size; have h3 := H2.out.from (k := F2.m1) (.inr (.inl rfl)); dsimp only; omega
    · refine H3.out.then ((HK3.out.more (T := F2.has) (fun k e _ => .inr (.inl e))).trans (K5.out.more (T := F2.has) (fun k e _ => .inl (by rw [HP.out]; exact e)))) (fun k => (H4.out k).1)
    · intro k
      refine ⟨?_, fun e => (H4.out k).2 (by rw [HKF.out]; exact e)⟩
      rintro (rfl | rfl | rfl | hk)
      · exact .inl (.inl rfl)
      · exact (H4.out _).1 (.inr (.inl rfl))
      · right; have h1 := GE5.out; have h2 := HK3.out.size; have h3 := H3.out.size; omega
      · cases hk

end Go.Proofs.Ytnnhnkpbiilooaa
