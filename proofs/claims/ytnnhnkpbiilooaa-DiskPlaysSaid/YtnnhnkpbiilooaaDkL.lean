/- disk: Fail. -/
import Derived.Test.YtnnhnkpbiilooaaDkK
namespace Go.Proofs.Ytnnhnkpbiilooaa
open Go.RowKit Go.Maps

set_option maxRecDepth 20000 in
theorem Fail_nil (v : Value) (w : World) : Calls Try.prog 21 #[.pointer none, v] w (Tells w 2) := by
  go_enter Try.func21, Try.ntmps21
  go_wp2_with (refine (live_nil _).mono ?_; rintro e w' ⟨rfl, rfl⟩)
  go_ret
  exact ⟨rfl, rfl⟩
set_option maxRecDepth 20000 in
theorem Fail_dead {w : World} {base : Nat} {F : Foot} {s : DS} (h : Dk w base F s) (hd : s.dd = true) (v : Value) : Calls Try.prog 21 #[dptr F.p, v] w (Does w base F s 51) := by
  have HL := Lib.hid (live_any h)
  have H := Lib.hid h
  rw [DS.live_t hd] at HL
  clear h hd
  unfold dptr at *
  go_enter Try.func21, Try.ntmps21
  go_wp2_with (refine HL.out.mono ?_; rintro e w' ⟨rfl, rfl⟩)
  go_ret
  exact H.out.does 51
theorem Bls.cells {w : World} {a : Option Addr} {c n : Nat} {ks : List Bool} (h : Bls w (.slice a n c) ks) (h0 : 0 < ks.length) : ∃ b o, a = some ⟨b, o, none⟩ ∧ ∀ i, i < ks.length → w.cell? ⟨b, o + i, none⟩ = some (.bool (ks.getD i false)) := by
  obtain ⟨a', c', e, _⟩ := h.shape
  cases e
  obtain ⟨b, o, e, hc⟩ := Elems.cells h h0
  exact ⟨b, o, e, fun i hi => hc i (by omega)⟩
theorem still_loadB {ops : Array Oper} {w : World} {Q : Act → Prop} {a : Act} {o : Oper} {rest : List Oper} (hg : o.guard = none) (x : Operand) (hop : o.op = Op.load 29 x) (g off : Nat) (b : Bk) (hx : a.eval x = .pointer (some ⟨g, off, none⟩)) (hr : w.rangeAt g off (b.l.map u8v))
    (h : wpStill Try.prog ops w Q rest (a.put o.dst (.agg b.v))) : wpStill Try.prog ops w Q (o :: rest) a := by
  refine wpStill_step (fun K hK => ?_)
  rw [if_pos (by simp [Region.wanted, hg])]
  have hrun : (execOp a.eval o).run Try.prog w = .ok (.value (.agg b.v)) w := by
    unfold execOp
    simp only [hop, hx, Instr.loadAt, Instr.sureAddr, Sem.run_bind, Sem.run_pure, Result.andThen_ok, run_loadVar_mid w g off _ _ _ hr undB rfl (by rw [List.length_map, b.h]; exact infB)]
    rfl
  unfold Oper.still
  rw [hrun, Oper.stillUpon_value]
  exact hK _ h
theorem Mp.off {w : World} {b c : Nat} {f : Nat → Option Bk} (h : Mp w b c f) {a : Addr} {x : Value} (hx : w.cell? a = some x) : a.block ≠ b := by
  obtain ⟨es, cl, hb⟩ := h.kind
  intro e
  subst e
  simp [World.cell?, hb] at hx

set_option maxRecDepth 100000 in
set_option maxHeartbeats 4000000 in
theorem Fail_live {w : World} {base : Nat} {F : Foot} {s : DS} (h : Dk w base F s) (hm : s.m ≤ 1000000000) (hd : s.dd = false) {v : Value} {ks : List Bool} (hv : Bls w v ks) :
    Calls Try.prog 21 #[dptr F.p, v] w (Does w base F (s.gone ks) 0) := by
  have HL := Lib.hid (live_any h)
  rw [DS.live_f hd] at HL
  have H := Lib.hid h
  obtain ⟨kv, hkf, h1, hkv⟩ := h.kvx
  clear hkf
  obtain ⟨c, hc1, hc2⟩ := h.c
  obtain ⟨ak, nk, ck, hkv'⟩ : ∃ a n c, kv = .slice a n c := by
    obtain ⟨a, c, e, _⟩ := hkv.bls.shape
    exact ⟨_, _, _, e⟩
  obtain ⟨aw, cw, hwv, hwl, hwa⟩ := h.wr.form
  rw [hkv', hwv, hd] at h1
  have hwr := h.wr
  rw [hwv] at hwr
  have HB := Lib.hid h1
  have HWR := Lib.hid hwr
  have HM := Lib.hid hc1
  have HC := Lib.hid hc2
  have HMM := Lib.hid hm
  have HWA := Lib.hid hwa
  obtain ⟨a, cv, rfl, hvl⟩ := hv.shape
  have HV := Lib.hid hv
  have HNE := Lib.hid (hc1.ne h1)
  obtain ⟨lw, hlw⟩ : ∃ n, s.wt.length = n := ⟨_, rfl⟩
  obtain ⟨lk, hlk⟩ : ∃ n, ks.length = n := ⟨_, rfl⟩
  have HLW := Lib.hid hlw
  have HLK := Lib.hid hlk
  rw [hlw] at HB
  rw [hlw] at hwl HWA HWR HC
  rw [hlk] at hvl
  rw [hlk] at ⊢ HV
  unfold maxLen at hwl hvl
  have z1 : (lw : Int) ≤ 9223372036854775807 := by omega
  have z2 : (lk : Int) ≤ 9223372036854775807 := by omega
  have HZ2 := Lib.hid z2
  obtain ⟨N, hN⟩ : ∃ N, min lk lw = N := ⟨_, rfl⟩
  have HN := Lib.hid hN
  have hmin : ∀ (ts : Array TypeId) (t : TypeId) (w : World), (Builtin.min_ ts t #[.int .i64 (lk : Int), .int .i64 (lw : Int)]).run Try.prog w = .ok (.int .i64 (N : Int)) w := by
    intro ts t w
    rw [run_min_int2]
    congr 2
    rw [← hN]
    split <;> omega
  have c2 := h1.cell (i := 2) (x := .slice aw s.wt.length cw) rfl
  rw [hlw] at c2
  clear h h1 hkv hc1 hc2 hwr hm hwa hv hkv' hwv hlw hlk hN hd hwl hvl
  unfold dptr at *
  go_enter Try.func21, Try.ntmps21
  go_wp2_with (refine HL.out.mono ?_; rintro e w' ⟨rfl, rfl⟩)
  go_loopw [20] (fun x wr => ∃ k : Nat, k ≤ N ∧ x = .int .i64 k ∧ Mp wr F.m1 (c + k) (putL s.fl (kept (s.wt.take k) (ks.take k))) ∧ Kept (· = F.m1) w wr) (fun x _ => N - (intOf x).toNat)
  case atStart => exact ⟨0, Nat.zero_le _, rfl, HM.out, Kept.refl _ _⟩
  case round =>
    obtain ⟨k, hk, rfl, hmr, hkr⟩ := hrel
    have HKR := Lib.hid hkr
    have HMR := Lib.hid hmr
    have hbr := hkr.blk HB.out (fun e => HNE.out e.symm)
    have HBR := Lib.hid hbr
    by_cases hlt : k < N
    · have hk1 : k < lk := by have := HN.out; omega
      have hk2 : k < lw := by have := HN.out; omega
      obtain ⟨gw, rfl⟩ := HWA.out (by omega)
      obtain ⟨gk, ok, rfl, hcell⟩ := Bls.cells HV.out (by have := HLK.out; omega)
      have hck := hkr.cell (hcell k (by have := HLK.out; omega)) (HM.out.off (hcell k (by have := HLK.out; omega)))
      obtain ⟨hat1, hat2⟩ := HWR.out.at k (by have := HLW.out; omega)
      have ha1 := hkr.cell hat1 (HM.out.off hat1)
      have ha2 : wr.rangeAt gw (k * 513 + 1) ((s.wt.getD k (0, Bk.zero)).2.l.map u8v) := fun j v hj => hkr.cell (hat2 j v hj) (HM.out.off (hat2 j v hj))
      have hkt := kept_take s.wt ks k (by have := HLW.out; omega) (by have := HLK.out; omega)
      obtain ⟨b, hb⟩ : ∃ b, ks.getD k false = b := ⟨_, rfl⟩
      rw [hb] at hck hkt
      obtain ⟨⟨wi, wb⟩, hw⟩ : ∃ x, s.wt.getD k (0, Bk.zero) = x := ⟨_, rfl⟩
      rw [hw] at ha1 ha2 hkt
      dsimp only at ha1 ha2
      have HKT := Lib.hid hkt
      have HA2 := Lib.hid ha2
      have hwi : wi < s.n := by
        have hl : k < s.wt.length := by have := HLW.out; omega
        have e : s.wt.getD k (0, Bk.zero) = s.wt[k] := by simp [List.getD, hl]
        have := H.out.wi s.wt[k] (by simp)
        rw [← e, hw] at this
        exact this
      have WI : Hid ((wi : Int) ≤ 9223372036854775807) := Lib.hid (by have := H.out.hn; omega)
      clear hmr hkr hcell hat1 hat2 ha2 hb hw hkt hmin c2 hwi
      cases b
      · go_wp2_with fail
        go_roundw
        case rel => exact ⟨k + 1, by omega, by go_num, by rw [HKT.out]; simpa using HMR.out.mono (by omega), HKR.out⟩
        case measure => simp [intOf]; omega
      · have HA1 := Lib.hid ha1
        clear ha1
        go_upto_region 8 with fail
        have c1 := hbr.cell (i := 1) (x := .map (some F.m1)) rfl
        have c2 := hbr.cell (i := 2) (x := .slice (some ⟨gw, 0, none⟩) lw cw) rfl
        have ha1 := HA1.out
        go_still_tail 20, (by kernel_rfl)
        refine still_loadB rfl _ rfl gw (k * 513 + 1) wb rfl (fun j v hv => HA2.out j v hv) ?_
        (try simp only [Act.put, List.setIfInBounds_toArray, List.set_cons_succ, List.set_cons_zero])
        refine wpStill_nil ?_
        change wpList _ _ _ _ _ wr.drew
        have hmd : Mp wr.drew F.m1 (c + k) (putL s.fl (kept (s.wt.take k) (ks.take k))) := HMR.out.new ⟨rfl, rfl, rfl, Nat.le_refl _, fun _ _ _ => rfl⟩
        have hkd : Kept (· = F.m1) w wr.drew := HKR.out.trans ⟨rfl, rfl, rfl, Nat.le_refl _, fun _ _ _ => rfl⟩
        have HMD := Lib.hid hmd
        have HKD := Lib.hid hkd
        have HCAP : Hid (c + k < maxLen) := Lib.hid (by have := HC.out; have := HMM.out; unfold maxLen; omega)
        clear hmd hkd c1 c2 ha1
        generalize wr.drew = wd at *
        go_wp2_with (refine wpMpPut rfl _ _ _ rfl F.m1 _ _ wi wb rfl rfl rfl WI.out HCAP.out HMD.out ?_; intro w4 hm4 hg4; have M4 := Lib.hid hm4; have G4 := Lib.hid hg4; clear hm4 hg4; (try go_frame))
        go_roundw
        case rel => exact ⟨k + 1, by omega, by go_num, by rw [HKT.out]; simpa [putL_snoc, Nat.add_assoc] using M4.out, HKD.out.trans (Kept.of G4.out (fun k e => .inl (by cases e; rfl)))⟩
        case measure => simp [intOf]; omega
    · obtain rfl : k = N := by omega
      have HG : Hid (Mp wr F.m1 (c + k) (s.gone ks).fl) := Lib.hid (by
        have e := kept_short s.wt ks
        rw [HLK.out, HLW.out, HN.out] at e
        show Mp wr F.m1 (c + k) (putL s.fl (kept s.wt ks))
        rw [← e]
        exact hmr)
      clear hlt hmr hkr hbr hmin c2

      go_wp2_with fail
      refine (forget_any (x0 := .int .i64 (s.n : Int)) (x1 := .map (some F.m1)) (x4 := .int .i64 (s.lf : Int)) (x5 := .slice ak nk ck) (x6 := .bool false) HBR.out _ _ _ rfl _ rfl).mono ?_; rintro e w5 ⟨m5, rfl, hb5, hm5, hk5, hge5⟩
      have B5 := Lib.hid hb5
      have M5 := Lib.hid hm5
      have K5 := Lib.hid hk5
      have GE5 := Lib.hid hge5
      have k4 := hb5.cell (i := 4) (x := .int .i64 (s.lf : Int)) rfl
      have f4 := hb5.frozen 4
      have S4 := Lib.hid (hb5.set 4 (.int .i64 0))
      have k5 := S4.out.cell (i := 5) (x := .slice ak nk ck) rfl
      have f5 := S4.out.frozen 5
      have S5 := Lib.hid (S4.out.set 5 (.slice none 0 0))
      have k6 := S5.out.cell (i := 6) (x := .bool false) rfl
      have f6 := S5.out.frozen 6
      clear hb5 hm5 hk5 hge5
      go_wp2_with fail
      go_ret
      have b6 := S5.out.set 6 (.bool true)
      have g4 : Kept (· = F.p) w5 _ := Kept.of (B5.out.setG 4 (.int .i64 0)) (fun k e => .inl (by cases e; rfl))
      have g5 : Kept (· = F.p) _ _ := Kept.of (S4.out.setG 5 (.slice none 0 0)) (fun k e => .inl (by cases e; rfl))
      have g6 : Kept (· = F.p) _ _ := Kept.of (S5.out.setG 6 (.bool true)) (fun k e => .inl (by cases e; rfl))
      have K6 := (g4.trans g5).trans g6
      clear g4 g5 g6
      generalize World.setCell _ _ _ = w6 at *
      have KR := HKR.out
      have hne := HMR.out.ne HBR.out
      have hlt := HMR.out.lt
      refine ⟨⟨F.p, F.m1, m5, .slice none 0 0, .slice none 0 0⟩, rfl, rfl, ⟨⟨b6, BlsT.nil _⟩, ⟨_, K6.mp (K5.out.mp HG.out hne) hne, ?_⟩, K6.mp M5.out (fun e => ?_), Wr.nil _ _, fun e => ?_, H.out.bp, H.out.b1, ?_, H.out.hn, by simp [DS.gone], by simp [DS.gone]⟩, ?_, ?_⟩
      · have := HC.out; have := HN.out
        show _ + 0 ≤ s.m
        omega
      · have := HBR.out.lt; have := GE5.out; have e : m5 = F.p := e; omega
      · have := GE5.out; have e : F.m1 = m5 := e; omega
      · have h1 := GE5.out; have h2 := KR.size; have h3 := H.out.from (k := F.m1) (.inr (.inl rfl)); dsimp only; omega
      · exact ((KR.more (T := F.has) (fun k e _ => .inr (.inl e))).trans (K5.out.more (fun k e _ => .inl e))).trans (K6.more (fun k e _ => .inl e))
      · intro k
        refine ⟨?_, fun e => by cases e⟩
        rintro (rfl | rfl | rfl | hk)
        · exact .inl (.inl rfl)
        · exact .inl (.inr (.inl rfl))
        · right; have h1 := GE5.out; have h2 := KR.size; omega
        · cases hk
end Go.Proofs.Ytnnhnkpbiilooaa
