/- disk: New, Boot, Cut. -/
import Derived.Test.YtnnhnkpbiilooaaDkJ
namespace Go.Proofs.Ytnnhnkpbiilooaa
open Go.RowKit Go.Maps

/-- A disk whose own cells alone were written. -/
theorem Dk.turn {w w' : World} {base : Nat} {F : Foot} {s : DS} (h : Dk w base F s) {lf : Nat} {kv : Value} {kp : List Bool} {dd : Bool}
    (hb : Blk w' F.p 63 #[.int .i64 (s.n : Int), .map (some F.m1), F.wv, .map (some F.m2), .int .i64 (lf : Int), kv, .bool dd]) (hk : BlsT w' kv kp) (hg : Kept (· = F.p) w w') (hl : (lf : Int) ≤ 9223372036854775807) :
    Dk w' base { F with kv := kv } { s with lf := lf, kp := kp, dd := dd } := by
  obtain ⟨h1, h2⟩ := h.kv
  obtain ⟨c, h3, h4⟩ := h.c
  refine ⟨⟨hb, hk⟩, ⟨c, hg.mp h3 (h3.ne h1), h4⟩, hg.mp h.nw (h.nw.ne h1), hg.row h.wr (fun k e hs => ?_), h.ne, h.bp, h.b1, h.b2, h.hn, hl, h.wi⟩
  obtain ⟨cs, hw⟩ := RowOf.kind h.wr e
  have hs : k = F.p := hs
  subst hs
  exact Blk.ne (show Blk w F.p 67 cs from hw) h1 (by decide) rfl

set_option maxRecDepth 20000 in
set_option maxHeartbeats 400000 in
theorem New_off (n : Int) (w : World) (hn : n < 64 ∨ 8192 < n) : Calls Try.prog 10 #[.int .i64 n] w fun e w' => e = .returned (.tuple #[.pointer none, .int .i64 1]) ∧ w = w' := by
  rcases hn with hn | hn
  · go_enter Try.func10, Try.ntmps10
    go_wp2_with fail
    go_ret2
    exact ⟨rfl, rfl⟩
  · have h0 : ¬ n < 64 := by omega
    go_enter Try.func10, Try.ntmps10
    go_wp2_with fail
    go_ret2
    exact ⟨rfl, rfl⟩

set_option maxRecDepth 20000 in
set_option maxHeartbeats 400000 in
theorem New_any (n : Nat) (w : World) (base : Nat) (h1 : 64 ≤ n) (h2 : n ≤ 8192) (hb : base ≤ w.heap.size) : Calls Try.prog 10 #[.int .i64 (n : Int)] w (Makes w base (.slice none 0 0) (DS.new n) fun v => .returned (.tuple #[v, .int .i64 0])) := by
  have hm1 := Mp.made w
  have g1 := World.grownBy_alloc w (.map #[] 0) none
  have hm2 := Mp.made (w.alloc (.map #[] 0))
  have g2 := World.grownBy_alloc (w.alloc (.map #[] 0)) (.map #[] 0) none
  have e1 : (w.alloc (.map #[] 0)).heap.size = w.heap.size + 1 := by simp
  rw [e1] at hm2
  have hm1 := hm1.new g2
  have hB := Blk.made ((w.alloc (.map #[] 0)).alloc (.map #[] 0)) 63 #[.int .i64 (n : Int), .map (some w.heap.size), .slice none 0 0, .map (some (w.heap.size + 1)), .int .i64 0, .slice none 0 0, .bool false]
  have g3 := World.grownBy_alloc ((w.alloc (.map #[] 0)).alloc (.map #[] 0)) (.cells #[.int .i64 (n : Int), .map (some w.heap.size), .slice none 0 0, .map (some (w.heap.size + 1)), .int .i64 0, .slice none 0 0, .bool false] 63) none
  have e2 : ((w.alloc (.map #[] 0)).alloc (.map #[] 0)).heap.size = w.heap.size + 1 + 1 := by simp
  rw [e2] at hB
  have hm1 := hm1.new g3
  have hm2 := hm2.new g3
  have G := Lib.hid (grown_two (grown_two g1 g2) g3)
  have HB := Lib.hid hB
  have HM1 := Lib.hid hm1
  have HM2 := Lib.hid hm2
  have HBS := Lib.hid hb
  clear hm1 hm2 g1 g2 g3 hB hb e1 e2
  have z1 : (n : Int) ≤ 8192 := by omega
  have z2 : 64 ≤ (n : Int) := by omega
  have HZ := Lib.hid h2
  clear h1 h2
  have hmm := @run_makeMap Try.prog
  go_enter Try.func10, Try.ntmps10
  go_wp2_with fail
  go_ret2
  refine ⟨⟨w.heap.size + 1 + 1, w.heap.size, w.heap.size + 1, .slice none 0 0, .slice none 0 0⟩, rfl, ⟨⟨HB.out, BlsT.nil _⟩, ⟨0, HM1.out, Nat.le_refl _⟩, HM2.out, Wr.nil _ _, by simp, ?_, ?_, ?_, HZ.out, by simp [DS.new], by simp [DS.new]⟩, G.out, rfl, ?_⟩
  · have := HBS.out; dsimp only; omega
  · exact HBS.out
  · have := HBS.out; dsimp only; omega
  · rintro k (rfl | rfl | rfl | hk)
    · dsimp only; omega
    · exact Nat.le_refl _
    · dsimp only; omega
    · cases hk

set_option maxRecDepth 20000 in
theorem Boot_nil (w : World) : Calls Try.prog 11 #[.pointer none] w fun e w' => e = .returned (.tuple #[.pointer none, .int .i64 2]) ∧ w = w' := by
  go_enter Try.func11, Try.ntmps11
  go_wp2_with fail
  go_ret2
  exact ⟨rfl, rfl⟩
set_option maxRecDepth 20000 in
theorem Boot_no {w : World} {base : Nat} {F : Foot} {s : DS} (h : Dk w base F s) (hd : s.dd = false) : Calls Try.prog 11 #[dptr F.p] w fun e w' => e = .returned (.tuple #[.pointer none, .int .i64 50]) ∧ w = w' := by
  obtain ⟨kv, -, h1, -⟩ := h.kvx
  have c6 := h1.cell (i := 6) (x := .bool s.dd) rfl
  rw [hd] at c6
  unfold dptr
  clear h h1 hd
  go_enter Try.func11, Try.ntmps11
  go_wp2_with fail
  go_ret2
  exact ⟨rfl, rfl⟩
set_option maxRecDepth 20000 in
set_option maxHeartbeats 400000 in
theorem Boot_any {w : World} {base : Nat} {F : Foot} {s : DS} (h : Dk w base F s) (hb : base ≤ w.heap.size) (hm : s.m ≤ 1000000000) (hd : s.dd = true) : Calls Try.prog 11 #[dptr F.p] w (Makes w base F.kv s.anew fun v => .returned (.tuple #[v, .int .i64 0])) := by
  have HC := Lib.hid (Copy_any h hb hm)
  obtain ⟨kv, -, h1, -⟩ := h.kvx
  have c6 := h1.cell (i := 6) (x := .bool s.dd) rfl
  rw [hd] at c6
  unfold dptr at *
  have HD := Lib.hid hd
  clear h h1 hb hm hd
  go_enter Try.func11, Try.ntmps11
  go_wp2_with fail
  refine HC.out.mono ?_; rintro e w1 ⟨G, rfl, h2, h3, h5, h4⟩
  have H5 := Lib.hid h5
  clear h5
  unfold dptr
  obtain ⟨k1, k2⟩ := h2.kv
  have H2 := Lib.hid h2
  have H3 := Lib.hid h3
  have H4 := Lib.hid h4
  have HB := Lib.hid k1
  have HK := Lib.hid k2
  have k6 := k1.cell (i := 6) (x := .bool s.dd) rfl
  have f6 := k1.frozen 6
  clear h2 h3 h4 k1 k2
  go_wp2_with fail
  go_ret2
  have b6 := HB.out.set 6 (.bool false)
  have g6 := HB.out.setG 6 (.bool false)
  generalize World.setCell _ _ _ = w2 at *
  have K6 : Kept (· = G.p) w1 w2 := Kept.of g6 (fun k e => .inl (by cases e; rfl))
  have hkb : BlsT w2 G.kv s.kp := K6.own HK.out (fun k e hs => by
    have hs : k = G.p := hs
    subst hs
    obtain ⟨cs, hw⟩ := HK.out.kind e
    exact Blk.ne (show Blk w1 G.p 4 cs from hw) HB.out (by decide) rfl)
  exact ⟨G, rfl, H2.out.turn (lf := s.lf) (kv := G.kv) (kp := s.kp) (dd := false) b6 hkb K6 H2.out.hl, grown_new H3.out g6 (H4.out _ (.inl rfl)), H5.out, H4.out⟩

set_option maxRecDepth 20000 in
theorem Copy_nil (w : World) : Calls Try.prog 23 #[.pointer none] w fun e w' => e = .returned (.pointer none) ∧ w = w' := by
  go_enter Try.func23, Try.ntmps23
  go_wp2_with fail
  go_ret
  exact ⟨rfl, rfl⟩

set_option maxRecDepth 20000 in
theorem Cut_nil (k : Int) (v : Value) (w : World) : Calls Try.prog 16 #[.pointer none, .int .i64 k, v] w (Tells w 2) := by
  go_enter Try.func16, Try.ntmps16
  go_wp2_with (refine (live_nil _).mono ?_; rintro e w' ⟨rfl, rfl⟩)
  go_ret
  exact ⟨rfl, rfl⟩

theorem DS.live_t {s : DS} (h : s.dd = true) : s.live = 51 := by unfold DS.live; rw [h]; rfl
theorem DS.live_f {s : DS} (h : s.dd = false) : s.live = 0 := by unfold DS.live; rw [h]; rfl
theorem Dk.does {w : World} {base : Nat} {F : Foot} {s : DS} (h : Dk w base F s) (z : Int) : Does w base F s z (.returned (.int .i64 z)) w := ⟨F, rfl, rfl, h, Kept.refl _ _, fun _ => ⟨.inl, .inl⟩⟩

set_option maxRecDepth 20000 in
set_option maxHeartbeats 400000 in
theorem Cut_any {w : World} {base : Nat} {F : Foot} {s : DS} (h : Dk w base F s) (k : Int) (hk : -9223372036854775808 ≤ k ∧ k ≤ 9223372036854775807) {v : Value} {ks : List Bool} (hv : Bls w v ks) (hl : ks.length ≤ 140737488355328) :
    Calls Try.prog 16 #[dptr F.p, .int .i64 k, v] w (Does w base F (s.cut k ks).1 (s.cut k ks).2) := by
  have HL := Lib.hid (live_any h)
  have H := Lib.hid h
  obtain ⟨kv, hkf, h1, hkv⟩ := h.kvx
  clear hkf
  obtain ⟨ak, ck, hkv', _⟩ := hkv.bls.shape
  rcases hd : s.dd with _ | _
  rotate_left 1
  · have e1 : s.cut k ks = (s, 51) := by unfold DS.cut; rw [if_pos hd]
    rw [e1]
    rw [DS.live_t hd] at HL
    clear h h1 hkv hd e1 hkv'
    unfold dptr at *
    go_enter Try.func16, Try.ntmps16
    go_wp2_with (refine HL.out.mono ?_; rintro e w' ⟨rfl, rfl⟩)
    go_ret
    exact H.out.does 51
  · rw [DS.live_f hd] at HL
    by_cases hk0 : k < 0
    · have e1 : s.cut k ks = (s, 1) := by unfold DS.cut; rw [if_neg (by rw [hd]; simp), if_pos hk0]
      rw [e1]
      clear h h1 hkv hd e1 hkv'
      unfold dptr at *
      go_enter Try.func16, Try.ntmps16
      go_wp2_with (refine HL.out.mono ?_; rintro e w' ⟨rfl, rfl⟩)
      go_ret
      exact H.out.does 1
    · have e1 : s.cut k ks = ({ s with lf := k.toNat, kp := ks }, 0) := by unfold DS.cut; rw [if_neg (by rw [hd]; simp), if_neg hk0]
      rw [e1]
      have hk2 : 0 ≤ k := by omega
      obtain ⟨j, rfl⟩ := Int.eq_ofNat_of_zero_le hk2
      rw [Int.toNat_natCast]
      have HC := Lib.hid (cloneBs_any hv hl)
      have HJ : Hid ((j : Int) ≤ 9223372036854775807) := Lib.hid hk.2
      have HKV := Lib.hid hkv'
      rw [hkv', hd] at h1
      have HB := Lib.hid h1
      have HD := Lib.hid hd
      clear h h1 hkv e1 hkv' hv hl hk hd
      unfold dptr at *
      go_enter Try.func16, Try.ntmps16
      go_wp2_with (first
        | (refine HL.out.mono ?_; rintro e w' ⟨rfl, rfl⟩)
        | (refine HC.out.mono ?_; rintro e w1 ⟨v1, rfl, hb1, hg1, hge1, a1, n1, c1, rfl⟩; have B1 := Lib.hid (HB.out.new hg1); have k4 := B1.out.cell (i := 4) (x := .int .i64 (s.lf : Int)) rfl; have f4 := B1.out.frozen 4; have S4 := Lib.hid (B1.out.set 4 (.int .i64 (j : Int))); have k5 := S4.out.cell (i := 5) (x := .slice ak s.kp.length ck) rfl; have f5 := S4.out.frozen 5; have HB1 := Lib.hid hb1; have G1 := Lib.hid hg1; have GE1 := Lib.hid hge1; clear hb1 hg1 hge1))
      go_ret
      have b5 := S4.out.set 5 (.slice a1 n1 c1)
      have g4 := B1.out.setG 4 (.int .i64 (j : Int))
      have g5 := S4.out.setG 5 (.slice a1 n1 c1)
      have K4 : Kept (· = F.p) w1 _ := Kept.of g4 (fun k e => .inl (by cases e; rfl))
      have K5 : Kept (· = F.p) _ _ := Kept.of g5 (fun k e => .inl (by cases e; rfl))
      have K := K4.trans K5
      have hkb : BlsT _ (.slice a1 n1 c1) ks := K.own HB1.out (fun k e hs => by
        have hs : k = F.p := hs
        subst hs
        obtain ⟨cs, hw⟩ := HB1.out.kind e
        exact Blk.ne (show Blk w1 F.p 4 cs from hw) B1.out (by decide) rfl)
      have hT := (H.out.new G1.out).turn (lf := j) (kv := .slice a1 n1 c1) (kp := ks) (dd := s.dd) (by rw [HD.out]; exact b5) hkb K HJ.out
      exact ⟨{ F with kv := .slice a1 n1 c1 }, rfl, rfl, hT, ((Kept.new G1.out).trans K).more (fun k e _ => .inl e), fun k => ⟨fun hk => .inl hk, fun hk => .inr (GE1.out k hk)⟩⟩
end Go.Proofs.Ytnnhnkpbiilooaa
