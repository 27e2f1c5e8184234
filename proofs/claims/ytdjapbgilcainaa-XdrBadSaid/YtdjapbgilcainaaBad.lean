/- XdrBad returns true, whatever is read. -/
import Derived.Test.YtdjapbgilcainaaWk
import Derived.Test.YtdjapbgilcainaaPure
import Derived.LoopTactic
namespace Go.Proofs.Ytdjapbgilcainaa
open Go.RowKit

set_option maxHeartbeats 1000000 in
theorem bad_long (n : Int) (v : Value) (bs : List UInt8) (w : World) (hv : Bts w v bs) (h : 5000 < bs.length) :
    Calls Try.prog 9 #[v, .int .i64 n] w fun e w' => e = .returned (.bool true) ∧ w.grownBy w' none := by
  obtain ⟨a, c, rfl, hl, hm⟩ := hv.form
  have hm2 : bs.length ≤ 9223372036854775807 := by unfold maxLen at hm; omega
  clear hv hm hl
  generalize bs.length = m at *
  go_enter Try.func9, Try.ntmps9
  go_wp2_with fail
  refine (works_any _).mono ?_; rintro e w1 ⟨rfl, hg⟩
  have HG := Lib.hid hg; clear hg
  go_wp2_with fail
  refine (works_any _).mono ?_; rintro e w2 ⟨rfl, hg⟩
  have HG2 := Lib.hid hg; clear hg
  go_wp2_with fail
  go_ret
  exact ⟨rfl, World.grownBy.trans HG.out HG2.out⟩

theorem bad_drop (bs : List UInt8) (k : Nat) (h : 4 * k + 4 ≤ bs.length) : rWord (some (bs.drop (4 * k))) = (num4 bs[4 * k].toNat bs[4 * k + 1].toNat bs[4 * k + 2].toNat bs[4 * k + 3].toNat, some (bs.drop (4 * (k + 1)))) := by
  rw [List.drop_eq_getElem_cons (by omega), List.drop_eq_getElem_cons (by omega), List.drop_eq_getElem_cons (by omega), List.drop_eq_getElem_cons (by omega)]
  rfl



set_option maxRecDepth 100000 in
set_option maxHeartbeats 4000000 in
theorem bad_main (n : Int) (v : Value) (bs : List UInt8) (w : World) (hv : Bts w v bs) (h : bs.length ≤ 5000) :
    Calls Try.prog 9 #[v, .int .i64 n] w fun e w' => e = .returned (.bool true) ∧ w.grownBy w' none := by
  obtain ⟨a, c, rfl, hl, hm⟩ := hv.form
  have HV := Lib.hid hv
  obtain ⟨k, hk, hkm⟩ : ∃ k : Nat, wrap64 ((IntKind.u64.wrap n).tmod (((bs.length : Nat) : Int) / 4 + 1)) = (k : Int) ∧ 4 * k ≤ bs.length := by
    have h0 : 0 ≤ IntKind.u64.wrap n := by rw [IntKind.wrap_u64]; omega
    have h1 : 0 ≤ IntKind.u64.wrap n % (((bs.length : Nat) : Int) / 4 + 1) := Int.emod_nonneg _ (by omega)
    have h2 : IntKind.u64.wrap n % (((bs.length : Nat) : Int) / 4 + 1) < ((bs.length : Nat) : Int) / 4 + 1 := Int.emod_lt_of_pos _ (by omega)
    rw [Int.tmod_eq_emod_of_nonneg h0]
    generalize IntKind.u64.wrap n % (((bs.length : Nat) : Int) / 4 + 1) = q at *
    refine ⟨q.toNat, ?_, by omega⟩
    unfold wrap64
    omega
  have HC : Hid (0 < bs.length → ∃ gb o, a = some ⟨gb, o, none⟩ ∧ BCells w gb o bs) := Lib.hid (fun h0 => by
    obtain ⟨gb, o, c2, h1, h2⟩ := hv.cell h0
    cases h1
    exact ⟨gb, o, rfl, h2⟩)
  have A := Lib.hid (All.start w)
  have d1 : decide (5000 < (bs.length : Int)) = false := by rw [decide_eq_false_iff_not]; omega
  have HK := Lib.hid hk
  clear hv hm hl hk
  generalize hk : bs.length = m at *
  have HM := Lib.hid hk; clear hk
  go_enter Try.func9, Try.ntmps9
  go_wp2_with fail
  refine (works_any _).mono ?_; rintro e w1 ⟨rfl, hg⟩
  replace A := Lib.hid (A.out.new hg); clear hg
  go_wp2_with fail
  rw [HK.out]
  refine (newReader_any _ bs _ (HV.out.new A.out.1) (by have := HM.out; omega)).mono ?_
  rintro e w2 ⟨r, g, rfl, k1, k2, k3, k4, k5⟩
  replace A : Hid (All w w2 [(r, g, some bs)]) := Lib.hid (A.out.made k1 k2 k3 k4 k5)
  clear k1 k2 k3 k4 k5
  go_wp2_with fail
  go_loopw [7] (fun i w' => ∃ j : Nat, j ≤ k ∧ i = .int .i64 j ∧ All w w' [(r, g, some (bs.drop (4 * j)))]) (fun i w' => k - (intOf i).toNat)
  case atStart => exact ⟨0, Nat.zero_le _, rfl, A.out⟩
  case round =>
    clear A
    obtain ⟨j, hj, rfl, hA⟩ := hrel
    have A := Lib.hid hA; clear hA
    by_cases hlt : j < k
    · have hb : 4 * j + 4 ≤ bs.length := by have := HM.out; omega
      obtain ⟨gb, o, rfl, hcs⟩ := HC.out (by omega)
      have E1 := Lib.hid (bad_drop bs j hb)
      have c0 := A.out.1.cell (hcs (4 * j) (by omega)) (by simp)
      have c1 := A.out.1.cell (hcs (4 * j + 1) (by omega)) (by simp)
      have c2 := A.out.1.cell (hcs (4 * j + 2) (by omega)) (by simp)
      have c3 := A.out.1.cell (hcs (4 * j + 3) (by omega)) (by simp)
      generalize bs[4 * j] = y0 at *
      generalize bs[4 * j + 1] = y1 at *
      generalize bs[4 * j + 2] = y2 at *
      generalize bs[4 * j + 3] = y3 at *
      have HO := Lib.hid (or4 y0.toNat y1.toNat y2.toNat y3.toNat (UInt8.toNat_lt _) (UInt8.toNat_lt _) (UInt8.toNat_lt _) (UInt8.toNat_lt _))
      have b0 := UInt8.toNat_lt y0
      have b1 := UInt8.toNat_lt y1
      have b2 := UInt8.toNat_lt y2
      have b3 := UInt8.toNat_lt y3
      have hb2 : 4 * j + 4 ≤ m := by have := HM.out; omega
      clear hcs hb
      go_wp2_with fail
      go_quiet (fail)
      rw [HO.out]
      clear HO c0 c1 c2 c3
      have A2 : Hid (All w (wr.drewN nq) [(r, g, some (bs.drop (4 * j)))]) := Lib.hid (A.out.new (drewN_grown wr nq))
      clear A
      generalize wr.drewN nq = w3 at *
      generalize num4 y0.toNat y1.toNat y2.toNat y3.toNat = q at *
      clear b0 b1 b2 b3
      go_wp2_with fail
      refine (word_l r g _ _ (A2.out.get 0 rfl) _ _ E1.out).mono ?_; rintro e w4 ⟨rfl, k1, k2⟩
      have A : Hid (All w w4 [(r, g, some (bs.drop (4 * (j + 1))))]) := Lib.hid (A2.out.read 0 rfl k1 k2); clear k1 k2 A2
      go_wp2_with fail
      refine (ok_l r g _ _ (A.out.get 0 rfl) true rfl).mono ?_; rintro e w5 ⟨rfl, rfl⟩
      go_wp2_with fail
      refine (left_l r g _ _ (A.out.get 0 rfl) ((m : Int) - 4 * (j : Int) - 4) (by have := HM.out; show (((bs.drop (4 * (j + 1))).length : Nat) : Int) = _; rw [List.length_drop]; omega)).mono ?_; rintro e w6 ⟨rfl, rfl⟩
      go_wp2_with fail
      go_roundw
      case rel => exact ⟨j + 1, by omega, by go_num, A.out⟩
      case measure => simp [intOf]; omega
    · obtain rfl : j = k := by omega
      clear hlt
      have E2 : Hid (rFixed ((m : Int) + 1) (some (bs.drop (4 * j))) = ([], none)) := Lib.hid (if_neg (by
        have := HM.out
        rintro ⟨_, h2, _⟩
        rw [List.length_drop] at h2
        omega))
      go_wp2_with fail
      refine (fixed_l r g _ _ (A.out.get 0 rfl) _ #[] none E2.out).mono ?_; rintro e w4 ⟨rfl, k1, k2⟩
      replace A : Hid (All w w4 [(r, g, none)]) := Lib.hid (A.out.read 0 rfl k1 k2); clear k1 k2
      go_wp2_with fail
      refine (ok_l r g _ _ (A.out.get 0 rfl) false rfl).mono ?_; rintro e w5 ⟨rfl, rfl⟩
      go_wp2_with fail
      refine (done_l r g _ _ (A.out.get 0 rfl) false rfl).mono ?_; rintro e w6 ⟨rfl, rfl⟩
      go_wp2_with fail
      refine (left_l r g _ _ (A.out.get 0 rfl) 0 rfl).mono ?_; rintro e w7 ⟨rfl, rfl⟩
      go_wp2_with fail
      refine (word_l r g _ _ (A.out.get 0 rfl) 0 none rfl).mono ?_; rintro e w8 ⟨rfl, k1, k2⟩
      replace A : Hid (All w w8 [(r, g, none)]) := Lib.hid (A.out.read 0 rfl k1 k2); clear k1 k2
      go_wp2_with fail
      refine (long_l r g _ _ (A.out.get 0 rfl) 0 none rfl).mono ?_; rintro e w9 ⟨rfl, k1, k2⟩
      replace A : Hid (All w w9 [(r, g, none)]) := Lib.hid (A.out.read 0 rfl k1 k2); clear k1 k2
      go_wp2_with fail
      refine (int_l r g _ _ (A.out.get 0 rfl) 0 none (by decide +kernel)).mono ?_; rintro e w10 ⟨rfl, k1, k2⟩
      replace A : Hid (All w w10 [(r, g, none)]) := Lib.hid (A.out.read 0 rfl k1 k2); clear k1 k2
      go_wp2_with fail
      refine (flag_l r g _ _ (A.out.get 0 rfl) false none (by decide)).mono ?_; rintro e w11 ⟨rfl, k1, k2⟩
      replace A : Hid (All w w11 [(r, g, none)]) := Lib.hid (A.out.read 0 rfl k1 k2); clear k1 k2
      go_wp2_with fail
      refine (text_l r g _ _ (A.out.get 0 rfl) 99 #[] none (by decide)).mono ?_; rintro e w12 ⟨rfl, k1, k2⟩
      replace A : Hid (All w w12 [(r, g, none)]) := Lib.hid (A.out.read 0 rfl k1 k2); clear k1 k2
      go_wp2_with fail
      refine (fixed_l r g _ _ (A.out.get 0 rfl) 0 #[] none (by decide)).mono ?_; rintro e w13 ⟨rfl, k1, k2⟩
      replace A : Hid (All w w13 [(r, g, none)]) := Lib.hid (A.out.read 0 rfl k1 k2); clear k1 k2
      go_wp2_with fail
      refine (count_l r g _ _ (A.out.get 0 rfl) 99 0 none (by decide)).mono ?_; rintro e w14 ⟨rfl, k1, k2⟩
      replace A : Hid (All w w14 [(r, g, none)]) := Lib.hid (A.out.read 0 rfl k1 k2); clear k1 k2
      go_wp2_with fail
      refine (left_l r g _ _ (A.out.get 0 rfl) 0 rfl).mono ?_; rintro e w15 ⟨rfl, rfl⟩
      go_wp2_with fail
      refine (ok_l r g _ _ (A.out.get 0 rfl) false rfl).mono ?_; rintro e w16 ⟨rfl, rfl⟩
      go_wp2_with fail
      go_ret
      exact ⟨rfl, A.out.1⟩

theorem bad_walk (v : Value) (bs : List UInt8) (n : Int) (_hn : (Lit.int .i64 n).wf = true) (w : World) (hv : Bts w v bs) :
    Calls Try.prog 9 #[v, .int .i64 n] w fun e w' => e = .returned (.bool true) ∧ w.grownBy w' none := by
  by_cases h : 5000 < bs.length
  · exact bad_long n v bs w hv h
  · exact bad_main n v bs w hv (by omega)
end Go.Proofs.Ytdjapbgilcainaa
