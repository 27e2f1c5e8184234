/- XdrReads returns true, whatever is read. -/
import Derived.Test.YtdjapbgilcainaaRefF
import Derived.Test.YtdjapbgilcainaaWk
import Derived.Test.YtdjapbgilcainaaLaw
import Derived.LoopTactic
import Derived.Deep.QuietTactic
import Derived.BigQuiet
import Derived.Deep.RegionHeld3
namespace Go.Proofs.Ytdjapbgilcainaa
open Go.RowKit

set_option maxHeartbeats 1000000 in
theorem reads_long (v1 v2 : Value) (bs : List UInt8) (n2 : Nat) (f2 : Nat → Value) (w : World) (h1 : Bts w v1 bs) (h2 : Elems w v2 2 n2 f2) (h : 3000 < bs.length ∨ 100 < n2) :
    Calls Try.prog 5 #[v1, v2] w fun e w' => e = .returned (.bool true) ∧ w.grownBy w' none := by
  obtain ⟨a1, c1, rfl, m0, m1⟩ := h1.form
  obtain ⟨a2, c2, rfl, m2⟩ := h2.form
  clear h1 h2
  unfold maxLen at m1 m2
  have fin : 3000 < bs.length ∨ (bs.length ≤ 3000 ∧ 100 < n2) := by omega
  have m3 : bs.length ≤ 9223372036854775807 := by omega
  clear h m0 m1
  generalize bs.length = n1 at *
  rcases fin with h | ⟨h, h'⟩
  all_goals
    go_enter Try.func5, Try.ntmps5
    go_wp2_with fail
    go_ret
    exact ⟨rfl, World.grownBy.refl _ _⟩

/-- A call that leaves the world alone, in a region that only reads. -/
theorem quiet_of_left' {P : Program} {f : FuncId} {args : Array Value} {w : World} {n : Nat} {v : Value} (h : Calls P f args (w.drewN n) fun e w' => e = .returned v ∧ w.drewN n = w') :
    Calls P f args (w.drewN n) fun e w' => e = .returned v ∧ ∃ m, w' = w.drewN m := h.mono fun _ _ ⟨he, hm⟩ => ⟨he, n, hm.symm⟩

theorem Own.block' {w : World} {base n c : Nat} {a : Option Addr} {bs : List UInt8} (h : Own w base (.slice a n c) bs) (h0 : 0 < bs.length) :
    ∃ g cur, a = some ⟨g, 0, none⟩ ∧ w.heap[g]? = some (.cells cur 5 (0, 0)) ∧ n ≤ c ∧ cur.size = c := by
  obtain ⟨_, ⟨_, h2⟩ | ⟨g, cap, cur, h1, h2, h3, h4, h5, h6, _⟩⟩ := h
  · omega
  · cases h1
    exact ⟨g, cur, rfl, h3, h4, by omega⟩

/-- No more than 3000 bytes are left. -/
def Len3 (s : St) : Prop := (s.getD []).length ≤ 3000

/-- Both readers, of the same state; each apart from the other one. -/
structure Both (w w' : World) (r x : Nat) (g q : Option Nat) (s : St) : Prop where
  grown : w.grownBy w' none
  mine : RdrS w' r g s
  ref : RRdrS w' x q s

/-- What stays of them: where they are. -/
def Apart (w : World) (r x : Nat) (g q : Option Nat) : Prop := w.heap.size ≤ r ∧ w.heap.size ≤ x ∧ r ≠ x ∧ g ≠ some x ∧ q ≠ some r

theorem Both.step {w w1 w2 w3 : World} {r x : Nat} {g q : Option Nat} {s s' : St} (h : Both w w1 r x g q s) (ha : Apart w r x g q) (h1 : RdrS w2 r g s') (hg1 : w1.grownBy w2 (some r)) (h2 : RRdrS w3 x q s') (hg2 : w2.grownBy w3 (some x)) : Both w w3 r x g q s' :=
  ⟨grown_own (grown_own h.grown hg1 (fun k hk => by cases hk; exact ha.1)) hg2 (fun k hk => by cases hk; exact ha.2.1), h1.kept hg2 (fun e => ha.2.2.1 (Option.some.inj e).symm) (.inr ha.2.2.2.1), h2⟩

theorem Both.ref2 {w w1 w2 : World} {r x : Nat} {g q : Option Nat} {s : St} (h : Both w w1 r x g q s) (ha : Apart w r x g q) (hg1 : w1.grownBy w2 (some r)) : RRdrS w2 x q s :=
  h.ref.kept hg1 (fun e => ha.2.2.1 (Option.some.inj e)) (.inr ha.2.2.2.2)

theorem rWord_len (s : St) : ((rWord s).2.getD []).length ≤ (s.getD []).length := by
  unfold rWord
  split
  · simp; omega
  · simp
theorem rLong_len (s : St) : ((rLong s).2.getD []).length ≤ (s.getD []).length := by
  unfold rLong
  split
  · simp; omega
  · simp
theorem rFixed_len2 (n : Int) (s : St) : ((rFixed n s).2.getD []).length ≤ (s.getD []).length := by
  unfold rFixed
  split
  · simp
  · split
    · simp
    · simp
theorem rText_len2 (m : Int) (s : St) : ((rText m s).2.getD []).length ≤ (s.getD []).length := Nat.le_trans (rFixed_len2 _ _) (rCount_len _ _)

set_option maxRecDepth 100000 in
set_option maxHeartbeats 9000000 in
theorem reads_main (v1 v2 : Value) (bs : List UInt8) (zs : List (Int × Int)) (w : World) (h1 : Bts w v1 bs) (h2 : Elems w v2 2 zs.length (pairAt .u8 .i64 zs)) (k1 : bs.length ≤ 3000) (k2 : zs.length ≤ 100) :
    Calls Try.prog 5 #[v1, v2] w fun e w' => e = .returned (.bool true) ∧ w.grownBy w' none := by
  obtain ⟨a1, c1, rfl, m0, m1⟩ := h1.form
  obtain ⟨a2, c2, rfl, m2⟩ := h2.form
  have H1 := Lib.hid h1; have H2 := Lib.hid h2
  have HO := Lib.hid (copy_nil w)
  have HB := Lib.hid (h1.new (World.grownBy_alloc w (.cells #[] 5) none))
  have HL : Hid (Fit [] bs) := Lib.hid (by unfold Fit; simp; omega)
  clear h1 h2 m0 m1 m2
  generalize hn1 : bs.length = n1 at *
  generalize hn2 : zs.length = n2 at *
  have N1 := Lib.hid hn1; have N2 := Lib.hid hn2; clear hn1 hn2
  have d1 : decide (3000 < (n1 : Int)) = false := by rw [decide_eq_false_iff_not]; omega
  have d2 : decide (100 < (n2 : Int)) = false := by rw [decide_eq_false_iff_not]; omega
  go_enter Try.func5, Try.ntmps5
  go_wp2_with (at_builtin; refine wpList_append_bts rfl _ _ rfl _ _ _ _ _ rfl rfl HO.out HB.out HL.out (by simp) ?_; rintro v5 w5 ⟨h6, h7, h8⟩; rw [List.nil_append] at h6; obtain ⟨a5, c5, rfl, x1, x2⟩ := h6.bts.form; have H6 := Lib.hid h6; have H7 := Lib.hid h7; clear h6 h7 h8 x1 x2)
  rw [N1.out]
  replace H6 : Hid (Own w5 w.heap.size (.slice a5 n1 c5) bs) := Lib.hid (by have h := H6.out; rw [N1.out] at h; exact h)
  have G5 : Hid (w.grownBy w5 none) := Lib.hid (grown_own (World.grownBy_alloc _ _ _) H7.out (fun m hm => by cases hm; exact Nat.le_refl _))
  clear H7 HO HB HL
  go_wp2_with fail
  refine (newReader_any _ bs _ H6.out.bts (by have := N1.out; omega)).mono ?_
  rintro e w6 ⟨r, g, rfl, x1, x2, x3, x4, x5⟩
  have R6 := Lib.hid x1; have G6 := Lib.hid x2; have L6 : Hid (w5.heap.size ≤ r ∧ r < w6.heap.size ∧ ∀ k, g = some k → w5.heap.size ≤ k ∧ k < w6.heap.size) := Lib.hid ⟨x3, x4, x5⟩
  clear x1 x2 x3 x4 x5
  go_wp2_with fail
  refine (refNewReader_any _ bs _ (H1.out.new (World.grownBy.trans G5.out G6.out)) (by have := N1.out; omega)).mono ?_
  rintro e w7 ⟨x, q, rfl, x1, x2, x3, x4, x5⟩
  have R7 := Lib.hid x1; have G7 := Lib.hid x2; have L7 : Hid (w6.heap.size ≤ x ∧ ∀ k, q = some k → w6.heap.size ≤ k) := Lib.hid ⟨x3, fun k hk => (x5 k hk).1⟩
  clear x1 x2 x3 x4 x5
  have HA : Hid (Apart w r x g q) := Lib.hid (by
    have h5 := G5.out.size; have h6 := G6.out.size
    obtain ⟨l1, l2, l3⟩ := L6.out
    obtain ⟨l4, l5⟩ := L7.out
    exact ⟨by omega, by omega, by omega, fun e => by have := (l3 x e).2; omega, fun e => by have := l5 r e; omega⟩)
  go_wp2_with fail
  go_loopw [8] (fun i w' => ∃ j : Nat, j ≤ n1 ∧ i = .int .i64 j ∧ w7.grownBy w' (Value.slice a5 n1 c5).ownBlock ∧ (0 < n1 → ∃ gi cur, a5 = some ⟨gi, 0, none⟩ ∧ w'.heap[gi]? = some (.cells cur 5 (0, 0)) ∧ n1 ≤ cur.size)) (fun i w' => n1 - (intOf i).toNat)
  case atStart =>
    refine ⟨0, Nat.zero_le _, rfl, World.grownBy.refl _ _, fun h0 => ?_⟩
    have h := (H6.out.new (World.grownBy.trans G6.out G7.out)).block' (by have := N1.out; omega)
    obtain ⟨gi, cur, h1, h2, h3, h4⟩ := h
    exact ⟨gi, cur, h1, h2, by omega⟩
  case round =>
    obtain ⟨j, hj, rfl, hg, hin⟩ := hrel
    by_cases hlt : j < n1
    · obtain ⟨gi, cur, rfl, hcur, hsz⟩ := hin (by omega)
      have GW := Lib.hid hg
      have HSZ := Lib.hid hsz
      obtain ⟨y, hx⟩ : ∃ y, wr.cell? ⟨gi, j, none⟩ = some y := ⟨cur[j]'(by omega), by simp [World.cell?, hcur, Array.getElem?_eq_getElem (show j < cur.size by omega)]⟩
      have hf : wr.frozen? ⟨gi, j, none⟩ = false := by simp [World.frozen?, hcur]
      have HB2 : Hid ((wr.setCell ⟨gi, j, none⟩ (.int .u8 9)).heap[gi]? = some (.cells (cur.set! j (.int .u8 9)) 5 (0, 0))) := Lib.hid (by simp [World.setCell, Array.getElem?_modify, hcur])
      clear hcur hin hg hsz
      go_wp2_with fail
      go_roundw
      case rel => exact ⟨j + 1, by omega, by go_num, Lib.grownBy_setB GW.out _ _, fun _ => ⟨gi, _, rfl, HB2.out, by have := HSZ.out; simp; omega⟩⟩
      case measure => simp [intOf]; omega
    · obtain rfl : n1 = j := by omega
      clear hlt hin
      have HBOTH : Hid (Both w wr r x g q (some bs)) := Lib.hid (by
        have own := H6.out.lt
        have h5 := G5.out.size; have h6 := G6.out.size
        obtain ⟨l1, l2, l3⟩ := L6.out
        obtain ⟨l4, l5⟩ := L7.out
        have far : ∀ k, w5.heap.size ≤ k → (Value.slice a5 n1 c5).ownBlock ≠ some k := fun k hk e => by have := (own k e).2; omega
        refine ⟨grown_own (World.grownBy.trans (World.grownBy.trans G5.out G6.out) G7.out) hg (fun k hk => (own k hk).1), (R6.out.new G7.out).kept hg (far r l1) ?_, R7.out.kept hg (far x (by omega)) ?_⟩
        · cases hgg : g with
          | none => exact .inl rfl
          | some k => exact .inr (far k (l3 k hgg).1).symm
        · cases hgg : q with
          | none => exact .inl rfl
          | some k => exact .inr (far k (by have := l5 k hgg; omega)).symm)
      clear hg H6 G5 G6 G7 R6 R7 L6 L7
      go_wp2_with fail
      obtain ⟨w8, rfl⟩ : ∃ wo : World, wo = wr := ⟨_, rfl⟩
      go_loopw [9] (fun i w' => ∃ (j : Nat) (s : St), j ≤ n2 ∧ i = .int .i64 j ∧ Both w w' r x g q s ∧ (s.getD []).length ≤ 3000) (fun i w' => n2 - (intOf i).toNat)
      case atStart => exact ⟨0, some bs, Nat.zero_le _, rfl, HBOTH.out, by have := N1.out; simp; omega⟩
      case round =>
        clear HBOTH
        obtain ⟨j, s, hj, rfl, hb, hs⟩ := hrel
        have BO := Lib.hid hb; have LS := Lib.hid hs; clear hb hs
        by_cases hlt : j < n2
        · obtain ⟨gb, of, rfl, hcs⟩ := H2.out.cells (by omega)
          have hc0 := BO.out.grown.cell (hcs (j * 2) (by omega)) (by simp)
          have hc1 := BO.out.grown.cell (hcs (j * 2 + 1) (by omega)) (by simp)
          have HF : Hid (gb < w.heap.size) := Lib.hid (World.block_lt_of_cell? w _ (hcs (j * 2) (by omega)))
          have e0 : pairAt .u8 .i64 zs (j * 2) = .int .u8 (zs.getD j (0, 0)).1 := by
            unfold pairAt
            rw [if_pos (by omega), show j * 2 / 2 = j by omega]
          have e1 : pairAt .u8 .i64 zs (j * 2 + 1) = .int .i64 (zs.getD j (0, 0)).2 := by
            unfold pairAt
            rw [if_neg (by omega), show (j * 2 + 1) / 2 = j by omega]
          rw [e0] at hc0
          rw [e1, ← Nat.add_assoc] at hc1
          clear e0 e1 hcs
          generalize (zs.getD j (0, 0)).1 = kd at *
          generalize (zs.getD j (0, 0)).2 = m at *
          have hk1 := k1; have hk2 := k2; clear k1 k2
          by_cases k0 : kd = 0
          · subst k0
            have HX := Lib.hid (fun w h => word_s r g s w h)
            have HY := Lib.hid (fun w h => refWord_s x q s w h)
            obtain ⟨⟨a, st⟩, hp⟩ : ∃ p, rWord s = p := ⟨_, rfl⟩
            rw [hp] at HX HY
            have HP := Lib.hid hp; clear hp
            clear hc1
            go_wp2_with fail
            clear hc0
            refine (HX.out _ BO.out.mine).mono ?_; rintro e w10 ⟨rfl, x1, x2⟩
            have X1 := Lib.hid x1; have X2 := Lib.hid x2; clear x1 x2
            go_wp2_with fail
            refine (HY.out _ (BO.out.ref2 HA.out X2.out)).mono ?_; rintro e w11 ⟨rfl, y1, y2⟩
            have BO2 : Hid (Both w w11 r x g q st) := Lib.hid (BO.out.step HA.out X1.out X2.out y1 y2)
            clear y1 y2 X1 X2 HX HY BO
            have LS2 : Hid (Len3 st) := Lib.hid (by unfold Len3; have h := rWord_len s; rw [HP.out] at h; have := LS.out; exact Nat.le_trans h this)
            obtain ⟨vx, t1, t2, _⟩ := BO2.out.ref
            obtain ⟨ax, cx, rfl, _, _⟩ := t2.form
            have b0 := t1.c0; have b1 := t1.c1
            clear t1 t2
            have HOK := Lib.hid (fun n => ok_s r g st (w11.drewN n) (BO2.out.mine.new (drewN_grown w11 n)))
            have HLF := Lib.hid (fun n => left_s r g st (w11.drewN n) (BO2.out.mine.new (drewN_grown w11 n)))
            have HDN := Lib.hid (fun n => done_s r g st (w11.drewN n) (BO2.out.mine.new (drewN_grown w11 n)))
            have HRD := Lib.hid (fun n => refDone_s x q st (w11.drewN n) (BO2.out.ref.new (drewN_grown w11 n)))
            unfold rLeft at HLF
            have hlx : (st.getD []).length ≤ 3000 := LS2.out
            generalize (st.getD []).length = lx at *
            generalize rDone st = dn at *
            have fin : (st.isSome = true ∧ st.isNone = false) ∨ (st.isSome = false ∧ st.isNone = true) := by cases st <;> simp
            rcases fin with ⟨f1, f2⟩ | ⟨f1, f2⟩
            all_goals
              rw [f1] at HOK
              rw [f2] at b1
              clear f1 f2
              go_wp2_with fail
              go_quiet (first | (go_at_call 18; exact quiet_of_left' (HOK.out _)) | (go_at_call 19; exact quiet_of_left' (HLF.out _)) | (go_at_call 22; exact quiet_of_left' (HDN.out _)) | (go_at_call 42; exact quiet_of_left' (HRD.out _)))
              clear b0 b1 HOK HLF HDN HRD
              go_wp2_with fail
              go_roundw
              case rel => exact ⟨j + 1, st, by omega, by go_num, ⟨World.grownBy.trans BO2.out.grown (drewN_grown _ _), BO2.out.mine.new (drewN_grown _ _), BO2.out.ref.new (drewN_grown _ _)⟩, LS2.out⟩
              case measure => simp [intOf]; omega
          ·
            by_cases k1 : kd = 1
            · subst k1
              have HX := Lib.hid (fun w h => long_s r g s w h)
              have HY := Lib.hid (fun w h => refLong_s x q s w h)
              obtain ⟨⟨a, st⟩, hp⟩ : ∃ p, rLong s = p := ⟨_, rfl⟩
              rw [hp] at HX HY
              have HP := Lib.hid hp; clear hp
              clear hc1
              go_wp2_with fail
              clear hc0
              refine (HX.out _ BO.out.mine).mono ?_; rintro e w10 ⟨rfl, x1, x2⟩
              have X1 := Lib.hid x1; have X2 := Lib.hid x2; clear x1 x2
              go_wp2_with fail
              refine (HY.out _ (BO.out.ref2 HA.out X2.out)).mono ?_; rintro e w11 ⟨rfl, y1, y2⟩
              have BO2 : Hid (Both w w11 r x g q st) := Lib.hid (BO.out.step HA.out X1.out X2.out y1 y2)
              clear y1 y2 X1 X2 HX HY BO
              have LS2 : Hid (Len3 st) := Lib.hid (by unfold Len3; have h := rLong_len s; rw [HP.out] at h; have := LS.out; exact Nat.le_trans h this)
              obtain ⟨vx, t1, t2, _⟩ := BO2.out.ref
              obtain ⟨ax, cx, rfl, _, _⟩ := t2.form
              have b0 := t1.c0; have b1 := t1.c1
              clear t1 t2
              have HOK := Lib.hid (fun n => ok_s r g st (w11.drewN n) (BO2.out.mine.new (drewN_grown w11 n)))
              have HLF := Lib.hid (fun n => left_s r g st (w11.drewN n) (BO2.out.mine.new (drewN_grown w11 n)))
              have HDN := Lib.hid (fun n => done_s r g st (w11.drewN n) (BO2.out.mine.new (drewN_grown w11 n)))
              have HRD := Lib.hid (fun n => refDone_s x q st (w11.drewN n) (BO2.out.ref.new (drewN_grown w11 n)))
              unfold rLeft at HLF
              have hlx : (st.getD []).length ≤ 3000 := LS2.out
              generalize (st.getD []).length = lx at *
              generalize rDone st = dn at *
              have fin : (st.isSome = true ∧ st.isNone = false) ∨ (st.isSome = false ∧ st.isNone = true) := by cases st <;> simp
              rcases fin with ⟨f1, f2⟩ | ⟨f1, f2⟩
              all_goals
                rw [f1] at HOK
                rw [f2] at b1
                clear f1 f2
                go_wp2_with fail
                go_quiet (first | (go_at_call 18; exact quiet_of_left' (HOK.out _)) | (go_at_call 19; exact quiet_of_left' (HLF.out _)) | (go_at_call 22; exact quiet_of_left' (HDN.out _)) | (go_at_call 42; exact quiet_of_left' (HRD.out _)))
                clear b0 b1 HOK HLF HDN HRD
                go_wp2_with fail
                go_roundw
                case rel => exact ⟨j + 1, st, by omega, by go_num, ⟨World.grownBy.trans BO2.out.grown (drewN_grown _ _), BO2.out.mine.new (drewN_grown _ _), BO2.out.ref.new (drewN_grown _ _)⟩, LS2.out⟩
                case measure => simp [intOf]; omega
            ·
              by_cases k2 : kd = 2
              · subst k2
                have HX := Lib.hid (fun w h => int_s r g s w h)
                have HY := Lib.hid (fun w h => refInt_s x q s w h)
                obtain ⟨⟨a, st⟩, hp⟩ : ∃ p, rInt s = p := ⟨_, rfl⟩
                rw [hp] at HX HY
                have HP := Lib.hid hp; clear hp
                clear hc1
                go_wp2_with fail
                clear hc0
                refine (HX.out _ BO.out.mine).mono ?_; rintro e w10 ⟨rfl, x1, x2⟩
                have X1 := Lib.hid x1; have X2 := Lib.hid x2; clear x1 x2
                go_wp2_with fail
                refine (HY.out _ (BO.out.ref2 HA.out X2.out)).mono ?_; rintro e w11 ⟨rfl, y1, y2⟩
                have BO2 : Hid (Both w w11 r x g q st) := Lib.hid (BO.out.step HA.out X1.out X2.out y1 y2)
                clear y1 y2 X1 X2 HX HY BO
                have LS2 : Hid (Len3 st) := Lib.hid (by unfold Len3; have h := (show (((rInt s).2).getD []).length ≤ _ from rLong_len s); rw [HP.out] at h; have := LS.out; exact Nat.le_trans h this)
                obtain ⟨vx, t1, t2, _⟩ := BO2.out.ref
                obtain ⟨ax, cx, rfl, _, _⟩ := t2.form
                have b0 := t1.c0; have b1 := t1.c1
                clear t1 t2
                have HOK := Lib.hid (fun n => ok_s r g st (w11.drewN n) (BO2.out.mine.new (drewN_grown w11 n)))
                have HLF := Lib.hid (fun n => left_s r g st (w11.drewN n) (BO2.out.mine.new (drewN_grown w11 n)))
                have HDN := Lib.hid (fun n => done_s r g st (w11.drewN n) (BO2.out.mine.new (drewN_grown w11 n)))
                have HRD := Lib.hid (fun n => refDone_s x q st (w11.drewN n) (BO2.out.ref.new (drewN_grown w11 n)))
                unfold rLeft at HLF
                have hlx : (st.getD []).length ≤ 3000 := LS2.out
                generalize (st.getD []).length = lx at *
                generalize rDone st = dn at *
                have fin : (st.isSome = true ∧ st.isNone = false) ∨ (st.isSome = false ∧ st.isNone = true) := by cases st <;> simp
                rcases fin with ⟨f1, f2⟩ | ⟨f1, f2⟩
                all_goals
                  rw [f1] at HOK
                  rw [f2] at b1
                  clear f1 f2
                  go_wp2_with fail
                  go_quiet (first | (go_at_call 18; exact quiet_of_left' (HOK.out _)) | (go_at_call 19; exact quiet_of_left' (HLF.out _)) | (go_at_call 22; exact quiet_of_left' (HDN.out _)) | (go_at_call 42; exact quiet_of_left' (HRD.out _)))
                  clear b0 b1 HOK HLF HDN HRD
                  go_wp2_with fail
                  go_roundw
                  case rel => exact ⟨j + 1, st, by omega, by go_num, ⟨World.grownBy.trans BO2.out.grown (drewN_grown _ _), BO2.out.mine.new (drewN_grown _ _), BO2.out.ref.new (drewN_grown _ _)⟩, LS2.out⟩
                  case measure => simp [intOf]; omega
              ·
                by_cases k3 : kd = 3
                · subst k3
                  have HX := Lib.hid (fun w h => flag_s r g s w h)
                  have HY := Lib.hid (fun w h => refFlag_s x q s w h)
                  obtain ⟨⟨a, st⟩, hp⟩ : ∃ p, rFlag s = p := ⟨_, rfl⟩
                  rw [hp] at HX HY
                  have HP := Lib.hid hp; clear hp
                  clear hc1
                  go_wp2_with fail
                  clear hc0
                  refine (HX.out _ BO.out.mine).mono ?_; rintro e w10 ⟨rfl, x1, x2⟩
                  have X1 := Lib.hid x1; have X2 := Lib.hid x2; clear x1 x2
                  go_wp2_with fail
                  refine (HY.out _ (BO.out.ref2 HA.out X2.out)).mono ?_; rintro e w11 ⟨rfl, y1, y2⟩
                  have BO2 : Hid (Both w w11 r x g q st) := Lib.hid (BO.out.step HA.out X1.out X2.out y1 y2)
                  clear y1 y2 X1 X2 HX HY BO
                  have LS2 : Hid (Len3 st) := Lib.hid (by unfold Len3; have h := (show (((rFlag s).2).getD []).length ≤ _ from rCount_len 1 s); rw [HP.out] at h; have := LS.out; exact Nat.le_trans h this)
                  obtain ⟨vx, t1, t2, _⟩ := BO2.out.ref
                  obtain ⟨ax, cx, rfl, _, _⟩ := t2.form
                  have b0 := t1.c0; have b1 := t1.c1
                  clear t1 t2
                  have HOK := Lib.hid (fun n => ok_s r g st (w11.drewN n) (BO2.out.mine.new (drewN_grown w11 n)))
                  have HLF := Lib.hid (fun n => left_s r g st (w11.drewN n) (BO2.out.mine.new (drewN_grown w11 n)))
                  have HDN := Lib.hid (fun n => done_s r g st (w11.drewN n) (BO2.out.mine.new (drewN_grown w11 n)))
                  have HRD := Lib.hid (fun n => refDone_s x q st (w11.drewN n) (BO2.out.ref.new (drewN_grown w11 n)))
                  unfold rLeft at HLF
                  have hlx : (st.getD []).length ≤ 3000 := LS2.out
                  generalize (st.getD []).length = lx at *
                  generalize rDone st = dn at *
                  have fin : (st.isSome = true ∧ st.isNone = false) ∨ (st.isSome = false ∧ st.isNone = true) := by cases st <;> simp
                  rcases fin with ⟨f1, f2⟩ | ⟨f1, f2⟩
                  all_goals
                    rw [f1] at HOK
                    rw [f2] at b1
                    clear f1 f2
                    go_wp2_with fail
                    go_quiet (first | (go_at_call 18; exact quiet_of_left' (HOK.out _)) | (go_at_call 19; exact quiet_of_left' (HLF.out _)) | (go_at_call 22; exact quiet_of_left' (HDN.out _)) | (go_at_call 42; exact quiet_of_left' (HRD.out _)))
                    clear b0 b1 HOK HLF HDN HRD
                    go_wp2_with fail
                    go_roundw
                    case rel => exact ⟨j + 1, st, by omega, by go_num, ⟨World.grownBy.trans BO2.out.grown (drewN_grown _ _), BO2.out.mine.new (drewN_grown _ _), BO2.out.ref.new (drewN_grown _ _)⟩, LS2.out⟩
                    case measure => simp [intOf]; omega
                ·
                  by_cases k4 : kd = 4
                  · subst k4
                    have HX := Lib.hid (fun w h => text_s r g s m w h)
                    have HY := Lib.hid (fun w h => refText_s x q s m w h (Nat.le_trans LS.out (by omega)))
                    obtain ⟨⟨a, st⟩, hp⟩ : ∃ p, rText m s = p := ⟨_, rfl⟩
                    rw [hp] at HX HY
                    have HP := Lib.hid hp; clear hp
                    have hj0 : (0 : Int) ≤ (j : Int) := by omega
                    have hj1 : (j : Int) < (n2 : Int) := by omega
                    have hne1 : gb ≠ r := by have h1 := HF.out; have h2 := HA.out.1; omega
                    have hne2 : gb ≠ x := by have h1 := HF.out; have h2 := HA.out.2.1; omega
                    go_wp2_with fail
                    go_region_held3 (fun w' => w'.cell? ⟨gb, of + j * 2 + 1, none⟩ = some (.int .i64 m)) (first | go_keep | exact Y2.out.cell (by assumption) (by simpa using hne2) | exact X2.out.cell (by assumption) (by simpa using hne1))
                      (first
                        | (go_at_call 25; refine (HX.out _ (by first | exact BO.out.mine | exact BO.out.mine.new (drew_grown _ _))).mono ?_; rintro e w10 ⟨rfl, x1, x2⟩; have X1 := Lib.hid x1; have X2 := Lib.hid x2; clear x1 x2)
                        | (go_at_call 39; refine (HY.out _ (by first | exact BO.out.ref2 HA.out X2.out | exact BO.out.ref2 HA.out (World.grownBy.trans (drew_grown _ _) X2.out))).mono ?_; rintro e w11 ⟨rfl, y1, y2⟩; have Y1 := Lib.hid y1; have Y2 := Lib.hid y2; clear y1 y2))
                    have BO2 : Hid (Both w w11 r x g q st) := Lib.hid (by first | exact BO.out.step HA.out X1.out X2.out Y1.out Y2.out | exact BO.out.step HA.out X1.out (World.grownBy.trans (drew_grown _ _) X2.out) Y1.out Y2.out)
                    clear Y1 Y2 X1 X2 HX HY BO hc0 hc1
                    have LS2 : Hid (Len3 st) := Lib.hid (by unfold Len3; have h := rText_len2 m s; rw [HP.out] at h; have := LS.out; exact Nat.le_trans h this)
                    obtain ⟨vx, t1, t2, _⟩ := BO2.out.ref
                    obtain ⟨ax, cx, rfl, _, _⟩ := t2.form
                    have b0 := t1.c0; have b1 := t1.c1
                    clear t1 t2
                    have HOK := Lib.hid (fun n => ok_s r g st (w11.drewN n) (BO2.out.mine.new (drewN_grown w11 n)))
                    have HLF := Lib.hid (fun n => left_s r g st (w11.drewN n) (BO2.out.mine.new (drewN_grown w11 n)))
                    have HDN := Lib.hid (fun n => done_s r g st (w11.drewN n) (BO2.out.mine.new (drewN_grown w11 n)))
                    have HRD := Lib.hid (fun n => refDone_s x q st (w11.drewN n) (BO2.out.ref.new (drewN_grown w11 n)))
                    unfold rLeft at HLF
                    have hlx : (st.getD []).length ≤ 3000 := LS2.out
                    generalize (st.getD []).length = lx at *
                    generalize rDone st = dn at *
                    have fin : (st.isSome = true ∧ st.isNone = false) ∨ (st.isSome = false ∧ st.isNone = true) := by cases st <;> simp
                    rcases fin with ⟨f1, f2⟩ | ⟨f1, f2⟩
                    all_goals
                      rw [f1] at HOK
                      rw [f2] at b1
                      clear f1 f2
                      go_wp2_with fail
                      go_quiet (first | (go_at_call 18; exact quiet_of_left' (HOK.out _)) | (go_at_call 19; exact quiet_of_left' (HLF.out _)) | (go_at_call 22; exact quiet_of_left' (HDN.out _)) | (go_at_call 42; exact quiet_of_left' (HRD.out _)))
                      clear b0 b1 HOK HLF HDN HRD
                      go_wp2_with fail
                      go_roundw
                      case rel => exact ⟨j + 1, st, by omega, by go_num, ⟨World.grownBy.trans BO2.out.grown (drewN_grown _ _), BO2.out.mine.new (drewN_grown _ _), BO2.out.ref.new (drewN_grown _ _)⟩, LS2.out⟩
                      case measure => simp [intOf]; omega
                  ·
                    by_cases k5 : kd = 5
                    · subst k5
                      have HX := Lib.hid (fun w h => fixed_s r g s m w h)
                      have HY := Lib.hid (fun w h => refFixed_s x q s m w h (Nat.le_trans LS.out (by omega)))
                      obtain ⟨⟨a, st⟩, hp⟩ : ∃ p, rFixed m s = p := ⟨_, rfl⟩
                      rw [hp] at HX HY
                      have HP := Lib.hid hp; clear hp
                      have hj0 : (0 : Int) ≤ (j : Int) := by omega
                      have hj1 : (j : Int) < (n2 : Int) := by omega
                      have hne1 : gb ≠ r := by have h1 := HF.out; have h2 := HA.out.1; omega
                      have hne2 : gb ≠ x := by have h1 := HF.out; have h2 := HA.out.2.1; omega
                      go_wp2_with fail
                      go_region_held3 (fun w' => w'.cell? ⟨gb, of + j * 2 + 1, none⟩ = some (.int .i64 m)) (first | go_keep | exact Y2.out.cell (by assumption) (by simpa using hne2) | exact X2.out.cell (by assumption) (by simpa using hne1))
                        (first
                          | (go_at_call 20; refine (HX.out _ (by first | exact BO.out.mine | exact BO.out.mine.new (drew_grown _ _))).mono ?_; rintro e w10 ⟨rfl, x1, x2⟩; have X1 := Lib.hid x1; have X2 := Lib.hid x2; clear x1 x2)
                          | (go_at_call 40; refine (HY.out _ (by first | exact BO.out.ref2 HA.out X2.out | exact BO.out.ref2 HA.out (World.grownBy.trans (drew_grown _ _) X2.out))).mono ?_; rintro e w11 ⟨rfl, y1, y2⟩; have Y1 := Lib.hid y1; have Y2 := Lib.hid y2; clear y1 y2))
                      have BO2 : Hid (Both w w11 r x g q st) := Lib.hid (by first | exact BO.out.step HA.out X1.out X2.out Y1.out Y2.out | exact BO.out.step HA.out X1.out (World.grownBy.trans (drew_grown _ _) X2.out) Y1.out Y2.out)
                      clear Y1 Y2 X1 X2 HX HY BO hc0 hc1
                      have LS2 : Hid (Len3 st) := Lib.hid (by unfold Len3; have h := rFixed_len2 m s; rw [HP.out] at h; have := LS.out; exact Nat.le_trans h this)
                      obtain ⟨vx, t1, t2, _⟩ := BO2.out.ref
                      obtain ⟨ax, cx, rfl, _, _⟩ := t2.form
                      have b0 := t1.c0; have b1 := t1.c1
                      clear t1 t2
                      have HOK := Lib.hid (fun n => ok_s r g st (w11.drewN n) (BO2.out.mine.new (drewN_grown w11 n)))
                      have HLF := Lib.hid (fun n => left_s r g st (w11.drewN n) (BO2.out.mine.new (drewN_grown w11 n)))
                      have HDN := Lib.hid (fun n => done_s r g st (w11.drewN n) (BO2.out.mine.new (drewN_grown w11 n)))
                      have HRD := Lib.hid (fun n => refDone_s x q st (w11.drewN n) (BO2.out.ref.new (drewN_grown w11 n)))
                      unfold rLeft at HLF
                      have hlx : (st.getD []).length ≤ 3000 := LS2.out
                      generalize (st.getD []).length = lx at *
                      generalize rDone st = dn at *
                      have fin : (st.isSome = true ∧ st.isNone = false) ∨ (st.isSome = false ∧ st.isNone = true) := by cases st <;> simp
                      rcases fin with ⟨f1, f2⟩ | ⟨f1, f2⟩
                      all_goals
                        rw [f1] at HOK
                        rw [f2] at b1
                        clear f1 f2
                        go_wp2_with fail
                        go_quiet (first | (go_at_call 18; exact quiet_of_left' (HOK.out _)) | (go_at_call 19; exact quiet_of_left' (HLF.out _)) | (go_at_call 22; exact quiet_of_left' (HDN.out _)) | (go_at_call 42; exact quiet_of_left' (HRD.out _)))
                        clear b0 b1 HOK HLF HDN HRD
                        go_wp2_with fail
                        go_roundw
                        case rel => exact ⟨j + 1, st, by omega, by go_num, ⟨World.grownBy.trans BO2.out.grown (drewN_grown _ _), BO2.out.mine.new (drewN_grown _ _), BO2.out.ref.new (drewN_grown _ _)⟩, LS2.out⟩
                        case measure => simp [intOf]; omega
                    ·
                      have t0 : (kd == 0) = false := beq_eq_false_iff_ne.2 k0
                      have t1 : (kd == 1) = false := beq_eq_false_iff_ne.2 k1
                      have t2 : (kd == 2) = false := beq_eq_false_iff_ne.2 k2
                      have t3 : (kd == 3) = false := beq_eq_false_iff_ne.2 k3
                      have t4 : (kd == 4) = false := beq_eq_false_iff_ne.2 k4
                      have t5 : (kd == 5) = false := beq_eq_false_iff_ne.2 k5
                      clear k0 k1 k2 k3 k4 k5
                      have HX := Lib.hid (fun w h => count_s r g s m w h)
                      have HY := Lib.hid (fun w h => refCount_s x q s m w h)
                      obtain ⟨⟨a, st⟩, hp⟩ : ∃ p, rCount m s = p := ⟨_, rfl⟩
                      rw [hp] at HX HY
                      have HP := Lib.hid hp; clear hp
                      have hj0 : (0 : Int) ≤ (j : Int) := by omega
                      have hj1 : (j : Int) < (n2 : Int) := by omega
                      have hne1 : gb ≠ r := by have h1 := HF.out; have h2 := HA.out.1; omega
                      have hne2 : gb ≠ x := by have h1 := HF.out; have h2 := HA.out.2.1; omega
                      go_wp2_with fail
                      go_region_held3 (fun w' => w'.cell? ⟨gb, of + j * 2 + 1, none⟩ = some (.int .i64 m)) (first | go_keep | exact Y2.out.cell (by assumption) (by simpa using hne2) | exact X2.out.cell (by assumption) (by simpa using hne1))
                        (first
                          | (go_at_call 21; refine (HX.out _ (by first | exact BO.out.mine | exact BO.out.mine.new (drew_grown _ _))).mono ?_; rintro e w10 ⟨rfl, x1, x2⟩; have X1 := Lib.hid x1; have X2 := Lib.hid x2; clear x1 x2)
                          | (go_at_call 41; refine (HY.out _ (by first | exact BO.out.ref2 HA.out X2.out | exact BO.out.ref2 HA.out (World.grownBy.trans (drew_grown _ _) X2.out))).mono ?_; rintro e w11 ⟨rfl, y1, y2⟩; have Y1 := Lib.hid y1; have Y2 := Lib.hid y2; clear y1 y2))
                      have BO2 : Hid (Both w w11 r x g q st) := Lib.hid (by first | exact BO.out.step HA.out X1.out X2.out Y1.out Y2.out | exact BO.out.step HA.out X1.out (World.grownBy.trans (drew_grown _ _) X2.out) Y1.out Y2.out)
                      clear Y1 Y2 X1 X2 HX HY BO hc0 hc1
                      have LS2 : Hid (Len3 st) := Lib.hid (by unfold Len3; have h := rCount_len m s; rw [HP.out] at h; have := LS.out; exact Nat.le_trans h this)
                      obtain ⟨vx, t1, t2, _⟩ := BO2.out.ref
                      obtain ⟨ax, cx, rfl, _, _⟩ := t2.form
                      have b0 := t1.c0; have b1 := t1.c1
                      clear t1 t2
                      have HOK := Lib.hid (fun n => ok_s r g st (w11.drewN n) (BO2.out.mine.new (drewN_grown w11 n)))
                      have HLF := Lib.hid (fun n => left_s r g st (w11.drewN n) (BO2.out.mine.new (drewN_grown w11 n)))
                      have HDN := Lib.hid (fun n => done_s r g st (w11.drewN n) (BO2.out.mine.new (drewN_grown w11 n)))
                      have HRD := Lib.hid (fun n => refDone_s x q st (w11.drewN n) (BO2.out.ref.new (drewN_grown w11 n)))
                      unfold rLeft at HLF
                      have hlx : (st.getD []).length ≤ 3000 := LS2.out
                      generalize (st.getD []).length = lx at *
                      generalize rDone st = dn at *
                      have fin : (st.isSome = true ∧ st.isNone = false) ∨ (st.isSome = false ∧ st.isNone = true) := by cases st <;> simp
                      rcases fin with ⟨f1, f2⟩ | ⟨f1, f2⟩
                      all_goals
                        rw [f1] at HOK
                        rw [f2] at b1
                        clear f1 f2
                        go_wp2_with fail
                        go_quiet (first | (go_at_call 18; exact quiet_of_left' (HOK.out _)) | (go_at_call 19; exact quiet_of_left' (HLF.out _)) | (go_at_call 22; exact quiet_of_left' (HDN.out _)) | (go_at_call 42; exact quiet_of_left' (HRD.out _)))
                        clear b0 b1 HOK HLF HDN HRD
                        go_wp2_with fail
                        go_roundw
                        case rel => exact ⟨j + 1, st, by omega, by go_num, ⟨World.grownBy.trans BO2.out.grown (drewN_grown _ _), BO2.out.mine.new (drewN_grown _ _), BO2.out.ref.new (drewN_grown _ _)⟩, LS2.out⟩
                        case measure => simp [intOf]; omega
        · obtain rfl : n2 = j := by omega
          clear hlt
          have HF := Lib.hid BO.out.grown
          clear BO
          go_wp2_with fail
          go_ret
          exact ⟨rfl, HF.out⟩

theorem reads_walk (v1 : Value) (bs : List UInt8) (v2 : Value) (w : World) (h1 : Bts w v1 bs) (h2 : ∃ zs : List (Int × Int), (∀ z ∈ zs, (Lit.int .u8 z.1).wf = true ∧ (Lit.int .i64 z.2).wf = true) ∧ Elems w v2 2 zs.length (pairAt .u8 .i64 zs)) :
    Calls Try.prog 5 #[v1, v2] w fun e w' => e = .returned (.bool true) ∧ w.grownBy w' none := by
  obtain ⟨zs, _, h2⟩ := h2
  by_cases h : 3000 < bs.length ∨ 100 < zs.length
  · exact reads_long v1 v2 bs _ _ w h1 h2 h
  · exact reads_main v1 v2 bs zs w h1 h2 (by omega) (by omega)
end Go.Proofs.Ytdjapbgilcainaa
