/- XdrOnly returns true, whatever is read. -/
import Derived.Test.YtdjapbgilcainaaWk
import Derived.Test.YtdjapbgilcainaaOnto
import Derived.Test.YtdjapbgilcainaaLaw
import Derived.LoopTactic
import Derived.Deep.QuietTactic
import Derived.BigQuiet
namespace Go.Proofs.Ytdjapbgilcainaa
open Go.RowKit

set_option maxHeartbeats 1000000 in
theorem only_long (v1 v2 : Value) (bs : List UInt8) (n2 : Nat) (f2 : Nat → Value) (w : World) (h1 : Bts w v1 bs) (h2 : Elems w v2 2 n2 f2) (h : 3000 < bs.length ∨ 100 < n2) :
    Calls Try.prog 7 #[v1, v2] w fun e w' => e = .returned (.bool true) ∧ w.grownBy w' none := by
  obtain ⟨a1, c1, rfl, m0, m1⟩ := h1.form
  obtain ⟨a2, c2, rfl, m2⟩ := h2.form
  clear h1 h2
  unfold maxLen at m1 m2
  have fin : 3000 < bs.length ∨ (bs.length ≤ 3000 ∧ 100 < n2) := by omega
  have m3 : bs.length ≤ 9223372036854775807 := by omega
  clear h m0 m1
  generalize bs.length = n1 at *
  rcases fin with h | ⟨h, h'⟩
  all_goals
    go_enter Try.func7, Try.ntmps7
    go_wp2_with fail
    refine (works_any _).mono ?_; rintro e w1 ⟨rfl, hg⟩
    have HG := Lib.hid hg; clear hg
    go_wp2_with fail
    refine (works_any _).mono ?_; rintro e w2 ⟨rfl, hg⟩
    have HG2 := Lib.hid hg; clear hg
    go_wp2_with fail
    go_ret
    exact ⟨rfl, World.grownBy.trans HG.out HG2.out⟩

/-- A call that leaves the world alone, in a region that only reads. -/
theorem quiet_of_left {P : Program} {f : FuncId} {args : Array Value} {w : World} {n : Nat} {v : Value} (h : Calls P f args (w.drewN n) fun e w' => e = .returned v ∧ w.drewN n = w') :
    Calls P f args (w.drewN n) fun e w' => e = .returned v ∧ ∃ m, w' = w.drewN m := h.mono fun _ _ ⟨he, hm⟩ => ⟨he, n, hm.symm⟩

theorem Bts.cut_hi {P : Program} {t e : TypeId} (ht : P.underlying t = some (.slice e)) (hz : ∀ w, (Go.sizeOf e).run P w = .ok 1 w) {w : World} {v : Value} {bs : List UInt8} (h : Bts w v bs) (k : Nat) (hk : k ≤ bs.length) :
    ∃ v', (∀ w', (Instr.slice t v none (some (.int .i64 (k : Int))) none).run P w' = .ok v' w') ∧ Bts w v' (bs.take k) := by
  rcases h with ⟨rfl, rfl⟩ | ⟨b, o, c, rfl, h1, h2, h3⟩ | ⟨a, rfl, rfl⟩
  rotate_left 2
  · obtain rfl : k = 0 := by simpa using hk
    refine ⟨.slice (some a) 0 0, fun w' => ?_, .inr (.inr ⟨a, rfl, rfl⟩)⟩
    simp [Instr.slice, Instr.sliceBounds, Instr.sliceBound, run_underlying ht, hz, asIntOf, go_sem, Addr.add]
  · obtain rfl : k = 0 := by simpa using hk
    refine ⟨.slice none 0 0, fun w' => ?_, .inl ⟨rfl, rfl⟩⟩
    simp [Instr.slice, Instr.sliceBounds, Instr.sliceBound, run_underlying ht, hz, asIntOf, go_sem]
  · refine ⟨.slice (some ⟨b, o, none⟩) k c, fun w' => ?_, .inr (.inl ⟨b, o, c, by rw [List.length_take, Nat.min_eq_left hk], by rw [List.length_take]; omega, h2, h3.take k⟩)⟩
    have hkc : ¬ c < k := by omega
    simp [Instr.slice, Instr.sliceBounds, Instr.sliceBound, run_underlying ht, hz, asIntOf, go_sem, hkc, Addr.add]

set_option maxRecDepth 100000 in
set_option maxHeartbeats 1500000 in
theorem only_main (v1 v2 : Value) (bs : List UInt8) (zs : List (Int × Int)) (w : World) (h1 : Bts w v1 bs) (h2 : Elems w v2 2 zs.length (pairAt .u8 .i64 zs)) (k1 : bs.length ≤ 3000) (k2 : zs.length ≤ 100) :
    Calls Try.prog 7 #[v1, v2] w fun e w' => e = .returned (.bool true) ∧ w.grownBy w' none := by
  obtain ⟨a1, c1, rfl, m0, m1⟩ := h1.form
  obtain ⟨a2, c2, rfl, m2⟩ := h2.form
  have H1 := Lib.hid h1; have H2 := Lib.hid h2
  have A := Lib.hid (All.start w)
  clear h1 h2 m0 m1 m2
  generalize hn1 : bs.length = n1 at *
  generalize hn2 : zs.length = n2 at *
  have N1 := Lib.hid hn1; have N2 := Lib.hid hn2; clear hn1 hn2
  have d1 : decide (3000 < (n1 : Int)) = false := by rw [decide_eq_false_iff_not]; omega
  have d2 : decide (100 < (n2 : Int)) = false := by rw [decide_eq_false_iff_not]; omega
  go_enter Try.func7, Try.ntmps7
  go_wp2_with fail
  refine (works_any _).mono ?_; rintro e w1 ⟨rfl, hg⟩
  replace A := Lib.hid (A.out.new hg); clear hg
  go_wp2_with fail
  refine (newReader_any _ bs _ (H1.out.new A.out.1) (by have := N1.out; omega)).mono ?_
  rintro e w2 ⟨r, g, rfl, x1, x2, x3, x4, x5⟩
  replace A : Hid (All w w2 [(r, g, some bs)]) := Lib.hid (A.out.made x1 x2 x3 x4 x5)
  clear x1 x2 x3 x4 x5
  go_wp2_with fail
  go_loopw [6, 7] (fun b i w' => ∃ (j : Nat) (o s : List UInt8), j ≤ n2 ∧ i = .int .i64 j ∧ All w w' [(r, g, some s)] ∧ Bts w' b o ∧ b.ownBlock ≠ some r ∧ o ++ s = bs) (fun _ i w' => n2 - (intOf i).toNat)
  case atStart => exact ⟨0, [], bs, Nat.zero_le _, rfl, A.out, Bts.nil _, by simp [Value.ownBlock], rfl⟩
  case round =>
    clear A
    obtain ⟨j, o, s, hj, rfl, hA, hb, hown, hos⟩ := hrel
    have A := Lib.hid hA
    obtain ⟨a3, c3, rfl, q1, q2⟩ := hb.form
    have HB := Lib.hid hb
    have HOS := Lib.hid hos
    have HOWN := Lib.hid hown
    have HOWN := Lib.hid hown
    have HOWN := Lib.hid hown
    have HOWN := Lib.hid hown
    have HOWN := Lib.hid hown
    have HOWN := Lib.hid hown
    have LO : Hid (o.length ≤ 3000) := Lib.hid (by have := N1.out; rw [← hos, List.length_append] at this; omega)
    have LS : Hid (s.length ≤ 3000) := Lib.hid (by have := N1.out; rw [← hos, List.length_append] at this; omega)
    clear hA hb hos hown q1 q2
    generalize ho : o.length = no at *
    have HNO := Lib.hid ho; clear ho
    by_cases hlt : j < n2
    · obtain ⟨gb, of, rfl, hcs⟩ := H2.out.cells (by omega)
      have hc0 := A.out.1.cell (hcs (j * 2) (by omega)) (by simp)
      have hc1 := A.out.1.cell (hcs (j * 2 + 1) (by omega)) (by simp)
      have e0 : pairAt .u8 .i64 zs (j * 2) = .int .u8 (zs.getD j (0, 0)).1 := by
        unfold pairAt
        rw [if_pos (by omega), show j * 2 / 2 = j by omega]
      have e1 : pairAt .u8 .i64 zs (j * 2 + 1) = .int .i64 (zs.getD j (0, 0)).2 := by
        unfold pairAt
        rw [if_neg (by omega), show (j * 2 + 1) / 2 = j by omega]
      rw [e0] at hc0
      rw [e1, ← Nat.add_assoc] at hc1
      clear e0 e1 hcs
      generalize (zs.getD j (0, 0)).1 = kd at *
      generalize (zs.getD j (0, 0)).2 = m at *
      by_cases k0 : kd = 0
      · subst k0
        obtain ⟨⟨q, st⟩, hp⟩ : ∃ p, rWord (some s) = p := ⟨_, rfl⟩
        have hq : 0 ≤ q ∧ q < 4294967296 := by
          cases st with
          | none => rw [rWord_zero hp]; omega
          | some l => have := rWord_onto hp; exact ⟨this.1, this.2.1⟩
        obtain ⟨y, rfl⟩ := Int.eq_ofNat_of_zero_le hq.1
        have hq2 := hq.2
        have HQ : Hid (y < 4294967296) := Lib.hid (by omega)
        clear hq
        have HP := Lib.hid hp; clear hp
        go_wp2_with fail
        refine (word_l r g _ _ (A.out.get 0 rfl) _ _ HP.out).mono ?_; rintro e w3 ⟨rfl, x1, x2⟩
        have A3 : Hid (All w w3 [(r, g, st)]) := Lib.hid (A.out.read 0 rfl x1 x2)
        have HB3 := Lib.hid (HB.out.kept x2 (.inr HOWN.out))
        clear x1 x2 A HB hc0 hc1 hq2
        go_wp2_with fail
        refine (Word_any _ o y _ HB3.out (by have := LO.out; have := HNO.out; omega) HQ.out).mono ?_; rintro e w4 ⟨v4, rfl, y1, y2⟩
        obtain ⟨a4, n4, c4, rfl⟩ := y1.bts.shape
        have A4 := Lib.hid (A3.out.new y2)
        have HB4 := Lib.hid y1.bts
        have HO4 : Hid ((Value.slice a4 n4 c4).ownBlock ≠ some r) := Lib.hid (fun e => by have h1 := (y1.lt r e).1; have h2 := (A3.out.2.1 0 _ rfl).2.2.1; simp at h2; omega)
        clear y1 y2 A3 HB3
        cases st with
        | none =>
          go_wp2_with fail
          refine (ok_l r g _ _ (A4.out.get 0 rfl) false rfl).mono ?_; rintro e w5 ⟨rfl, rfl⟩
          go_wp2_with fail
          refine (left_l r g _ _ (A4.out.get 0 rfl) 0 rfl).mono ?_; rintro e w6 ⟨rfl, rfl⟩
          go_wp2_with fail
          go_ret
          exact ⟨rfl, A4.out.1⟩
        | some l =>
          have HE : Hid ((o ++ word4 y) ++ l = bs) := Lib.hid (by rw [← HOS.out, List.append_assoc]; congr 1; exact ((rWord_onto HP.out).2.2).symm)
          go_wp2_with fail
          refine (ok_l r g _ _ (A4.out.get 0 rfl) true rfl).mono ?_; rintro e w5 ⟨rfl, rfl⟩
          go_wp2_with fail
          go_roundw
          case rel => exact ⟨j + 1, o ++ word4 y, l, by omega, by go_num, A4.out, HB4.out, HO4.out, HE.out⟩
          case measure => simp [intOf]; omega
      ·
        by_cases k1 : kd = 1
        · subst k1
          obtain ⟨⟨q, st⟩, hp⟩ : ∃ p, rLong (some s) = p := ⟨_, rfl⟩
          have hq : 0 ≤ q ∧ q < 18446744073709551616 := by
            cases st with
            | none => rw [rLong_zero hp]; omega
            | some l => have := rLong_onto hp; exact ⟨this.1, this.2.1⟩
          obtain ⟨y, rfl⟩ := Int.eq_ofNat_of_zero_le hq.1
          have HQ : Hid (y < 18446744073709551616) := Lib.hid (by omega)
          clear hq
          have HP := Lib.hid hp; clear hp
          go_wp2_with fail
          refine (long_l r g _ _ (A.out.get 0 rfl) _ _ HP.out).mono ?_; rintro e w3 ⟨rfl, x1, x2⟩
          have A3 : Hid (All w w3 [(r, g, st)]) := Lib.hid (A.out.read 0 rfl x1 x2)
          have HB3 := Lib.hid (HB.out.kept x2 (.inr HOWN.out))
          clear x1 x2 A HB hc0 hc1
          go_wp2_with fail
          refine (Long_any _ o y _ HB3.out (by have := LO.out; have := HNO.out; omega) HQ.out).mono ?_; rintro e w4 ⟨v4, rfl, y1, y2⟩
          obtain ⟨a4, n4, c4, rfl⟩ := y1.bts.shape
          have A4 := Lib.hid (A3.out.new y2)
          have HB4 := Lib.hid y1.bts
          have HO4 : Hid ((Value.slice a4 n4 c4).ownBlock ≠ some r) := Lib.hid (fun e => by have h1 := (y1.lt r e).1; have h2 := (A3.out.2.1 0 _ rfl).2.2.1; simp at h2; omega)
          clear y1 y2 A3 HB3
          cases st with
          | none =>
            go_wp2_with fail
            refine (ok_l r g _ _ (A4.out.get 0 rfl) false rfl).mono ?_; rintro e w5 ⟨rfl, rfl⟩
            go_wp2_with fail
            refine (left_l r g _ _ (A4.out.get 0 rfl) 0 rfl).mono ?_; rintro e w6 ⟨rfl, rfl⟩
            go_wp2_with fail
            go_ret
            exact ⟨rfl, A4.out.1⟩
          | some l =>
            have HE : Hid ((o ++ longB y) ++ l = bs) := Lib.hid (by rw [← HOS.out, List.append_assoc]; congr 1; exact ((rLong_onto HP.out).2.2).symm)
            go_wp2_with fail
            refine (ok_l r g _ _ (A4.out.get 0 rfl) true rfl).mono ?_; rintro e w5 ⟨rfl, rfl⟩
            go_wp2_with fail
            go_roundw
            case rel => exact ⟨j + 1, o ++ longB y, l, by omega, by go_num, A4.out, HB4.out, HO4.out, HE.out⟩
            case measure => simp [intOf]; omega
        ·
          by_cases k2 : kd = 2
          · subst k2
            obtain ⟨⟨q, st⟩, hp⟩ : ∃ p, rInt (some s) = p := ⟨_, rfl⟩
            have HP := Lib.hid hp; clear hp
            go_wp2_with fail
            refine (int_l r g _ _ (A.out.get 0 rfl) _ _ HP.out).mono ?_; rintro e w3 ⟨rfl, x1, x2⟩
            have A3 : Hid (All w w3 [(r, g, st)]) := Lib.hid (A.out.read 0 rfl x1 x2)
            have HB3 := Lib.hid (HB.out.kept x2 (.inr HOWN.out))
            clear x1 x2 A HB hc0 hc1
            go_wp2_with fail
            refine (Int_any _ o q _ HB3.out (by have := LO.out; have := HNO.out; omega)).mono ?_; rintro e w4 ⟨v4, rfl, y1, y2⟩
            obtain ⟨a4, n4, c4, rfl⟩ := y1.bts.shape
            have A4 := Lib.hid (A3.out.new y2)
            have HB4 := Lib.hid y1.bts
            have HO4 : Hid ((Value.slice a4 n4 c4).ownBlock ≠ some r) := Lib.hid (fun e => by have h1 := (y1.lt r e).1; have h2 := (A3.out.2.1 0 _ rfl).2.2.1; simp at h2; omega)
            clear y1 y2 A3 HB3
            cases st with
            | none =>
              go_wp2_with fail
              refine (ok_l r g _ _ (A4.out.get 0 rfl) false rfl).mono ?_; rintro e w5 ⟨rfl, rfl⟩
              go_wp2_with fail
              refine (left_l r g _ _ (A4.out.get 0 rfl) 0 rfl).mono ?_; rintro e w6 ⟨rfl, rfl⟩
              go_wp2_with fail
              go_ret
              exact ⟨rfl, A4.out.1⟩
            | some l =>
              have HE : Hid ((o ++ longB (bits64 q)) ++ l = bs) := Lib.hid (by rw [← HOS.out, List.append_assoc]; congr 1; exact (rInt_onto HP.out).symm)
              go_wp2_with fail
              refine (ok_l r g _ _ (A4.out.get 0 rfl) true rfl).mono ?_; rintro e w5 ⟨rfl, rfl⟩
              go_wp2_with fail
              go_roundw
              case rel => exact ⟨j + 1, o ++ longB (bits64 q), l, by omega, by go_num, A4.out, HB4.out, HO4.out, HE.out⟩
              case measure => simp [intOf]; omega
          ·
            by_cases k3 : kd = 3
            · subst k3
              obtain ⟨⟨q, st⟩, hp⟩ : ∃ p, rFlag (some s) = p := ⟨_, rfl⟩
              have HP := Lib.hid hp; clear hp
              go_wp2_with fail
              refine (flag_l r g _ _ (A.out.get 0 rfl) _ _ HP.out).mono ?_; rintro e w3 ⟨rfl, x1, x2⟩
              have A3 : Hid (All w w3 [(r, g, st)]) := Lib.hid (A.out.read 0 rfl x1 x2)
              have HB3 := Lib.hid (HB.out.kept x2 (.inr HOWN.out))
              clear x1 x2 A HB hc0 hc1
              go_wp2_with fail
              refine (Flag_any _ o q _ HB3.out (by have := LO.out; have := HNO.out; omega)).mono ?_; rintro e w4 ⟨v4, rfl, y1, y2⟩
              obtain ⟨a4, n4, c4, rfl⟩ := y1.bts.shape
              have A4 := Lib.hid (A3.out.new y2)
              have HB4 := Lib.hid y1.bts
              have HO4 : Hid ((Value.slice a4 n4 c4).ownBlock ≠ some r) := Lib.hid (fun e => by have h1 := (y1.lt r e).1; have h2 := (A3.out.2.1 0 _ rfl).2.2.1; simp at h2; omega)
              clear y1 y2 A3 HB3
              cases st with
              | none =>
                go_wp2_with fail
                refine (ok_l r g _ _ (A4.out.get 0 rfl) false rfl).mono ?_; rintro e w5 ⟨rfl, rfl⟩
                go_wp2_with fail
                refine (left_l r g _ _ (A4.out.get 0 rfl) 0 rfl).mono ?_; rintro e w6 ⟨rfl, rfl⟩
                go_wp2_with fail
                go_ret
                exact ⟨rfl, A4.out.1⟩
              | some l =>
                have HE : Hid ((o ++ flagB q) ++ l = bs) := Lib.hid (by rw [← HOS.out, List.append_assoc]; congr 1; exact (rFlag_onto HP.out).symm)
                go_wp2_with fail
                refine (ok_l r g _ _ (A4.out.get 0 rfl) true rfl).mono ?_; rintro e w5 ⟨rfl, rfl⟩
                go_wp2_with fail
                go_roundw
                case rel => exact ⟨j + 1, o ++ flagB q, l, by omega, by go_num, A4.out, HB4.out, HO4.out, HE.out⟩
                case measure => simp [intOf]; omega
            ·
              by_cases k4 : kd = 4
              · subst k4
                obtain ⟨⟨q, st⟩, hp⟩ : ∃ p, rText m (some s) = p := ⟨_, rfl⟩
                have HQ : Hid ((⟨q.toArray⟩ : ByteArray).size ≤ 3000) := Lib.hid (by have h := rText_short hp; have := LS.out; show q.toArray.size ≤ 3000; simp; omega)
                have HP := Lib.hid hp; clear hp
                go_wp2_with fail
                refine (text_l r g _ _ (A.out.get 0 rfl) _ q.toArray _ HP.out).mono ?_; rintro e w3 ⟨rfl, x1, x2⟩
                have A3 : Hid (All w w3 [(r, g, st)]) := Lib.hid (A.out.read 0 rfl x1 x2)
                have HB3 := Lib.hid (HB.out.kept x2 (.inr HOWN.out))
                clear x1 x2 A HB hc0 hc1
                go_wp2_with fail
                refine (Text_any _ o ⟨q.toArray⟩ _ HB3.out (by have := LO.out; have := HNO.out; omega) (by have := HQ.out; omega)).mono ?_; rintro e w4 ⟨v4, rfl, y1, y2⟩
                obtain ⟨a4, n4, c4, rfl⟩ := y1.bts.shape
                have A4 := Lib.hid (A3.out.new y2)
                have HB4 := Lib.hid y1.bts
                have HO4 : Hid ((Value.slice a4 n4 c4).ownBlock ≠ some r) := Lib.hid (fun e => by have h1 := (y1.lt r e).1; have h2 := (A3.out.2.1 0 _ rfl).2.2.1; simp at h2; omega)
                clear y1 y2 A3 HB3
                cases st with
                | none =>
                  go_wp2_with fail
                  refine (ok_l r g _ _ (A4.out.get 0 rfl) false rfl).mono ?_; rintro e w5 ⟨rfl, rfl⟩
                  go_wp2_with fail
                  refine (left_l r g _ _ (A4.out.get 0 rfl) 0 rfl).mono ?_; rintro e w6 ⟨rfl, rfl⟩
                  go_wp2_with fail
                  go_ret
                  exact ⟨rfl, A4.out.1⟩
                | some l =>
                  have HE : Hid ((o ++ textB q) ++ l = bs) := Lib.hid (by rw [← HOS.out, List.append_assoc]; congr 1; exact (rText_onto HP.out).symm)
                  go_wp2_with fail
                  refine (ok_l r g _ _ (A4.out.get 0 rfl) true rfl).mono ?_; rintro e w5 ⟨rfl, rfl⟩
                  go_wp2_with fail
                  go_roundw
                  case rel => exact ⟨j + 1, o ++ textB q, l, by omega, by go_num, A4.out, HB4.out, HO4.out, HE.out⟩
                  case measure => simp [intOf]; omega
              ·
                by_cases k5 : kd = 5
                · subst k5
                  obtain ⟨⟨q, st⟩, hp⟩ : ∃ p, rFixed m (some s) = p := ⟨_, rfl⟩
                  have HQ : Hid ((⟨q.toArray⟩ : ByteArray).size ≤ 3000) := Lib.hid (by have h := rFixed_short hp; have := LS.out; show q.toArray.size ≤ 3000; simp; omega)
                  have HP := Lib.hid hp; clear hp
                  go_wp2_with fail
                  refine (fixed_l r g _ _ (A.out.get 0 rfl) _ q.toArray _ HP.out).mono ?_; rintro e w3 ⟨rfl, x1, x2⟩
                  have A3 : Hid (All w w3 [(r, g, st)]) := Lib.hid (A.out.read 0 rfl x1 x2)
                  have HB3 := Lib.hid (HB.out.kept x2 (.inr HOWN.out))
                  clear x1 x2 A HB hc0 hc1
                  go_wp2_with fail
                  refine (Fixed_any _ o ⟨q.toArray⟩ _ HB3.out (by have := LO.out; have := HNO.out; omega) (by have := HQ.out; omega)).mono ?_; rintro e w4 ⟨v4, rfl, y1, y2⟩
                  obtain ⟨a4, n4, c4, rfl⟩ := y1.bts.shape
                  have A4 := Lib.hid (A3.out.new y2)
                  have HB4 := Lib.hid y1.bts
                  have HO4 : Hid ((Value.slice a4 n4 c4).ownBlock ≠ some r) := Lib.hid (fun e => by have h1 := (y1.lt r e).1; have h2 := (A3.out.2.1 0 _ rfl).2.2.1; simp at h2; omega)
                  clear y1 y2 A3 HB3
                  cases st with
                  | none =>
                    go_wp2_with fail
                    refine (ok_l r g _ _ (A4.out.get 0 rfl) false rfl).mono ?_; rintro e w5 ⟨rfl, rfl⟩
                    go_wp2_with fail
                    refine (left_l r g _ _ (A4.out.get 0 rfl) 0 rfl).mono ?_; rintro e w6 ⟨rfl, rfl⟩
                    go_wp2_with fail
                    go_ret
                    exact ⟨rfl, A4.out.1⟩
                  | some l =>
                    have HE : Hid ((o ++ fixedB q) ++ l = bs) := Lib.hid (by rw [← HOS.out, List.append_assoc]; congr 1; exact (rFixed_onto HP.out).symm)
                    go_wp2_with fail
                    refine (ok_l r g _ _ (A4.out.get 0 rfl) true rfl).mono ?_; rintro e w5 ⟨rfl, rfl⟩
                    go_wp2_with fail
                    go_roundw
                    case rel => exact ⟨j + 1, o ++ fixedB q, l, by omega, by go_num, A4.out, HB4.out, HO4.out, HE.out⟩
                    case measure => simp [intOf]; omega
                ·
                  have t0 : (kd == 0) = false := beq_eq_false_iff_ne.2 k0
                  have t1 : (kd == 1) = false := beq_eq_false_iff_ne.2 k1
                  have t2 : (kd == 2) = false := beq_eq_false_iff_ne.2 k2
                  have t3 : (kd == 3) = false := beq_eq_false_iff_ne.2 k3
                  have t4 : (kd == 4) = false := beq_eq_false_iff_ne.2 k4
                  have t5 : (kd == 5) = false := beq_eq_false_iff_ne.2 k5
                  clear k0 k1 k2 k3 k4 k5
                  obtain ⟨⟨q, st⟩, hp⟩ : ∃ p, rCount m (some s) = p := ⟨_, rfl⟩
                  have hq : 0 ≤ q ∧ q < 4294967296 := by
                    cases st with
                    | none => rw [rCount_zero hp]; omega
                    | some l => have := rCount_onto hp; exact ⟨this.1, this.2.1⟩
                  obtain ⟨y, rfl⟩ := Int.eq_ofNat_of_zero_le hq.1
                  have hq2 := hq.2
                  have HQ : Hid (y < 4294967296) := Lib.hid (by omega)
                  clear hq
                  have hq0 : (0 : Int) ≤ (y : Int) := by omega
                  have HP := Lib.hid hp; clear hp
                  go_wp2_with fail
                  refine (count_l r g _ _ (A.out.get 0 rfl) _ _ _ HP.out).mono ?_; rintro e w3 ⟨rfl, x1, x2⟩
                  have A3 : Hid (All w w3 [(r, g, st)]) := Lib.hid (A.out.read 0 rfl x1 x2)
                  have HB3 := Lib.hid (HB.out.kept x2 (.inr HOWN.out))
                  clear x1 x2 A HB hc0 hc1
                  go_wp2_with fail
                  refine (Word_any _ o y _ HB3.out (by have := LO.out; have := HNO.out; omega) HQ.out).mono ?_; rintro e w4 ⟨v4, rfl, y1, y2⟩
                  obtain ⟨a4, n4, c4, rfl⟩ := y1.bts.shape
                  have A4 := Lib.hid (A3.out.new y2)
                  have HB4 := Lib.hid y1.bts
                  have HO4 : Hid ((Value.slice a4 n4 c4).ownBlock ≠ some r) := Lib.hid (fun e => by have h1 := (y1.lt r e).1; have h2 := (A3.out.2.1 0 _ rfl).2.2.1; simp at h2; omega)
                  clear y1 y2 A3 HB3
                  cases st with
                  | none =>
                    go_wp2_with fail
                    refine (ok_l r g _ _ (A4.out.get 0 rfl) false rfl).mono ?_; rintro e w5 ⟨rfl, rfl⟩
                    go_wp2_with fail
                    refine (left_l r g _ _ (A4.out.get 0 rfl) 0 rfl).mono ?_; rintro e w6 ⟨rfl, rfl⟩
                    go_wp2_with fail
                    go_ret
                    exact ⟨rfl, A4.out.1⟩
                  | some l =>
                    have HE : Hid ((o ++ word4 y) ++ l = bs) := Lib.hid (by rw [← HOS.out, List.append_assoc]; congr 1; exact ((rCount_onto HP.out).2.2.2).symm)
                    go_wp2_with fail
                    refine (ok_l r g _ _ (A4.out.get 0 rfl) true rfl).mono ?_; rintro e w5 ⟨rfl, rfl⟩
                    go_wp2_with fail
                    go_roundw
                    case rel => exact ⟨j + 1, o ++ word4 y, l, by omega, by go_num, A4.out, HB4.out, HO4.out, HE.out⟩
                    case measure => simp [intOf]; omega
    · obtain rfl : n2 = j := by omega
      clear hlt
      have h := N1.out
      have h2 := HNO.out
      have hno : no + rLeft (some s) = n1 := by rw [← HOS.out, List.length_append] at h; show no + s.length = n1; omega
      have hz : bs.take no = o := by rw [← HOS.out, ← HNO.out, List.take_left]
      have hbw := H1.out.new A.out.1
      obtain ⟨v', hrun, hv'⟩ := hbw.cut_hi und22 siz5 no (by omega)
      rw [hz] at hv'
      obtain ⟨a5, n5, c5, rfl⟩ := hv'.shape
      have hs1 : ∀ n, (convert 23 9 (.slice a5 n5 c5)).run Try.prog (wr.drewN n) = .ok (.string ⟨o.toArray⟩) (wr.drewN n) := fun n => (hv'.new (drewN_grown wr n)).str und22 und5 und9
      have hs2 : ∀ n, (convert 23 9 (.slice a3 no c3)).run Try.prog (wr.drewN n) = .ok (.string ⟨o.toArray⟩) (wr.drewN n) := fun n => (HB.out.new (drewN_grown wr n)).str und22 und5 und9
      have HLF := Lib.hid (fun n => left_l r g _ (wr.drewN n) ((A.out.get 0 rfl).new (drewN_grown wr n)) (rLeft (some s) : Int) rfl)
      generalize rLeft (some s) = lf at *
      have hg : ((no : Int) + (lf : Int) == (n1 : Int)) = true := by rw [beq_iff_eq]; omega
      have hno2 : no ≤ n1 := by omega
      have hlf : lf ≤ 3000 := by omega
      clear h h2 hz hbw hv' hno
      go_wp2_with fail
      go_quiet ((go_at_call 19; exact quiet_of_left (HLF.out _)))
      have A9 := Lib.hid (A.out.1)
      clear A hs1 hs2 hrun HLF hg
      go_wp2_with fail
      go_ret
      exact ⟨rfl, World.grownBy.trans A9.out (drewN_grown wr nq)⟩

theorem only_walk (v1 : Value) (bs : List UInt8) (v2 : Value) (w : World) (h1 : Bts w v1 bs) (h2 : ∃ zs : List (Int × Int), (∀ z ∈ zs, (Lit.int .u8 z.1).wf = true ∧ (Lit.int .i64 z.2).wf = true) ∧ Elems w v2 2 zs.length (pairAt .u8 .i64 zs)) :
    Calls Try.prog 7 #[v1, v2] w fun e w' => e = .returned (.bool true) ∧ w.grownBy w' none := by
  obtain ⟨zs, _, h2⟩ := h2
  by_cases h : 3000 < bs.length ∨ 100 < zs.length
  · exact only_long v1 v2 bs _ _ w h1 h2 h
  · exact only_main v1 v2 bs zs w h1 h2 (by omega) (by omega)
end Go.Proofs.Ytdjapbgilcainaa
