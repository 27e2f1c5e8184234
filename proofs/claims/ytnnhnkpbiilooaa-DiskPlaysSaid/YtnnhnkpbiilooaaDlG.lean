/- same. -/
import Derived.Test.YtnnhnkpbiilooaaDlF
namespace Go.Proofs.Ytnnhnkpbiilooaa
open Go.RowKit Go.Maps

theorem drewN_new (w : World) (n : Nat) : w.grownBy (w.drewN n) none := ⟨rfl, rfl, rfl, Nat.le_refl _, fun _ _ _ => rfl⟩
theorem quiet_of {f : FuncId} {args : Array Value} {w : World} {n : Nat} {v : Value} (h : Calls Try.prog f args (w.drewN n) fun e w' => e = .returned v ∧ w.drewN n = w') :
    Calls Try.prog f args (w.drewN n) fun e w' => e = .returned v ∧ ∃ m, w' = w.drewN m := h.mono fun _ _ ⟨he, hm⟩ => ⟨he, n, hm.symm⟩

set_option maxRecDepth 20000 in
set_option maxHeartbeats 4000000 in
theorem same_any {W w : World} {O : List Nat} {L : List (Nat × DS)} {p q : Nat} {kv v : Value} {s : DS} {l : List Stp} (hL : Law W w O L) (i : Nat) (hi : L[i]? = some (p, s)) (hR : RkE w q kv s) (hS : Steps W v l) :
    Calls Try.prog 32 #[dptr p, dptr q, v] w (Asks w true) := by
  have HI := Lib.hid hi
  have HL := Lib.hid hL
  have HR := Lib.hid hR
  have HBL : Hid (∀ n, Calls _ _ _ _ _) := Lib.hid (fun n => lBlocks (hL.new (drewN_new w n)) hi)
  have HDE : Hid (∀ n, Calls _ _ _ _ _) := Lib.hid (fun n => lDead (hL.new (drewN_new w n)) hi)
  have HWA : Hid (∀ n, Calls _ _ _ _ _) := Lib.hid (fun n => lWaiting (hL.new (drewN_new w n)) hi)
  obtain ⟨on, lv, hr⟩ := hR
  have HRW : Hid (∀ n, Calls _ _ _ _ _) := Lib.hid (fun n => rWaiting_any (hr.keep (S := fun _ => False) (Kept.new (drewN_new w n)) (fun h => h) (fun _ _ h => h) (fun _ _ h => h)))
  have c0 := hr.blk.cell (i := 0) (x := .int .i64 (s.n : Int)) rfl
  have c4 := hr.blk.cell (i := 4) (x := .bool s.dd) rfl
  obtain ⟨a, c, rfl, hl, hat⟩ := hS
  obtain ⟨len, hlen⟩ : ∃ n, l.length = n := ⟨_, rfl⟩
  have HLEN := Lib.hid hlen
  have HAT := Lib.hid hat
  rw [hlen] at hl ⊢
  unfold maxLen at hl
  have z1 : (len : Int) ≤ 9223372036854775807 := by omega
  clear hat hlen hi hL hr
  obtain ⟨n, hn⟩ : ∃ n, (s.n : Int) = n := ⟨_, rfl⟩
  obtain ⟨wt, hwt⟩ : ∃ n, (s.wt.length : Int) = n := ⟨_, rfl⟩
  obtain ⟨dd, hdd⟩ : ∃ n, s.dd = n := ⟨_, rfl⟩
  rw [hn] at HBL c0
  rw [hwt] at HWA HRW
  rw [hdd] at HDE c4
  clear hn hwt hdd
  unfold dptr at *
  go_enter Try.func32, Try.ntmps32
  go_upto_region 1 with fail
  go_quiet (first | (go_at_call 13; exact quiet_of (HBL.out _)) | (go_at_call 19; exact quiet_of (HDE.out _)) | (go_at_call 20; exact quiet_of (HWA.out _)) | (go_at_call 43; exact quiet_of (HRW.out _)))
  have hg0 : w.grownBy (w.drewN nq) none := drewN_new w nq
  generalize w.drewN nq = w1 at *
  have HG0 := Lib.hid hg0
  clear c0 c4 hg0
  go_wp2_with fail
  go_loopw [7] (fun y wr => ∃ k : Nat, k ≤ len ∧ y = .int .i64 k ∧ w.grownBy wr none) (fun y _ => len - (intOf y).toNat)
  case atStart => exact ⟨0, Nat.zero_le _, rfl, HG0.out⟩
  case round =>
    obtain ⟨k, hk, rfl, hg⟩ := hrel
    have HG := Lib.hid hg
    by_cases hlt : k < len
    · obtain ⟨b, o, rfl, hs⟩ := HAT.out k (by have := HLEN.out; omega)
      generalize l[k]'(by have := HLEN.out; omega) = x at *
      have hs := (hs.new HL.out.grown).new hg
      have HS := Lib.hid hs
      have k1 := hs.n
      obtain ⟨N, hN⟩ : ∃ N, x.n = N := ⟨_, rfl⟩
      have HN := Lib.hid hN
      obtain ⟨⟨B, Z⟩, hrd⟩ : ∃ r, s.read N = r := ⟨_, rfl⟩
      have hca := lRead (HL.out.new hg) HI.out N (by rw [← hN]; exact hs.hn)
      have hcb : ∀ w2, wr.grownBy w2 none → Calls Try.prog 27 #[dptr q, .int .i64 N] w2 (Gives w2 (s.read N).1 (s.read N).2) := fun w2 hg2 => by
        obtain ⟨on, lv, h⟩ := HR.out.new (grown_two hg hg2)
        exact rRead_any h N
      rw [hrd] at hca hcb
      unfold dptr at hca hcb
      have HCA := Lib.hid hca
      have HCB := Lib.hid hcb
      rw [hN] at k1
      clear hs hg hN hrd hca hcb
      go_upto_region 7 with (first
        | (go_at_call 12; refine HCA.out.mono ?_; rintro e w2 ⟨rfl, hg2⟩; have G2 := Lib.hid hg2; clear hg2)
        | (refine wpAllocB rfl rfl ?_; intro g1 w3 hn1; have N1 := Lib.hid hn1; clear hn1)
        | (refine wpStoreB rfl (.tmp 8) (.tmp 49) rfl g1 _ _ rfl rfl N1.out.blk ?_; intro w4 hb4 hg4; have B4 := Lib.hid hb4; have G4 := Lib.hid (grown_new (grown_two G2.out N1.out.grown) hg4 (Nat.le_trans G2.out.size N1.out.ge)); clear hb4 hg4))
      have k1 := (HS.out.new G4.out).n
      rw [HN.out] at k1
      go_upto_region 8 with (first
        | (go_at_call 27; refine (HCB.out _ G4.out).mono ?_; rintro e w5 ⟨rfl, hg5⟩; have G5 := Lib.hid (grown_two G4.out hg5); have B5 := Lib.hid (B4.out.new hg5); clear hg5)
        | (refine wpAllocB rfl rfl ?_; intro g2 w6 hn2; have N2 := Lib.hid hn2; clear hn2)
        | (refine wpStoreB rfl (.tmp 10) (.tmp 59) rfl g2 _ _ rfl rfl N2.out.blk ?_; intro w7 hb7 hg7; have B7 := Lib.hid hb7; have A7 := Lib.hid ((B5.out.new N2.out.grown).kept hg7 (by have := N2.out.ge; have := B5.out.lt; simp; omega)); have G7 := Lib.hid (grown_new (grown_two G5.out N2.out.grown) hg7 (Nat.le_trans G5.out.size N2.out.ge)); clear hb7 hg7))
      have hne : decide (B ≠ B) = false := by simp
      clear k1
      go_wp2_with (first
        | (refine wpLoadB rfl (.tmp 8) rfl g1 _ rfl A7.out ?_)
        | (refine wpLoadB rfl (.tmp 10) rfl g2 _ rfl B7.out ?_)
        | (refine wpNeqB rfl _ _ _ rfl _ _ rfl rfl ?_; rw [hne]))
      go_roundw
      case rel => exact ⟨k + 1, by omega, by go_num, grown_two HG.out G7.out⟩
      case measure => (simp [intOf]; try omega)
    · obtain rfl : k = len := by omega
      go_wp2_with fail
      go_ret
      exact ⟨rfl, HG.out⟩
end Go.Proofs.Ytnnhnkpbiilooaa
