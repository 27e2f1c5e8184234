/- The iterator of records, walked. -/
import Derived.Test.YtahmpgaohjopeaaSeq
namespace Go.Proofs.Ytahmpgaohjopeaa
open Go.RowKit Go.Shelf
attribute [local go_sem] Oper.semAt_some

/-- A text's value. -/
def txt (s : List UInt8) : Value := .string ⟨s.toArray⟩

/-- What the caller's invariant and its round promise. -/
structure Rounds (N n0 l r : Nat) (J : List (List UInt8) → World → Prop) : Prop where
  abides : ∀ told W W' v v' s, J told W → RS W r v s → Stp W r v W' v' → J told W'
  round : ∀ told x W v s, J told W → RS W r v s → x.length ≤ 4096 → told.length < N → YieldAt Fence.wide 2 Try.prog l #[txt x] W fun e W' => e = .returned (.bool true) ∧ J (told ++ [x]) W' ∧ KB n0 W W'

/-- A chunk that is not empty lies below n0, and apart from the reader. -/
def Apart (c : List UInt8) (u v : Value) (r n0 : Nat) : Prop := c ≠ [] → (∀ g, u.ownBlock = some g → g < n0) ∧ u.ownBlock ≠ some r ∧ (u.ownBlock = none ∨ u.ownBlock ≠ v.ownBlock)

set_option maxHeartbeats 1600000 in
theorem iter_any (n0 l r bc br : Nat) (v u : Value) (s : Ms) (c : List UInt8) (J : List (List UInt8) → World → Prop) (hJ : Rounds c.length n0 l r J) (W : World)
    (hn0 : n0 ≤ W.heap.size) (hr : RS W r v s) (hok : s.Ok false) (hcm : s.came + c.length ≤ 4611686018427387904) (hu : Bts W u c) (hap : Apart c u v r n0)
    (hbc : Blk W bc 30 #[u]) (hbr : Blk W br 25 #[.pointer (some ⟨r, 0, none⟩)]) (h0 : J [] W) :
    CallsIn Fence.wide 3 Try.prog 26 #[.func (.yield l) #[] #[], .pointer (some ⟨bc, 0, none⟩), .pointer (some ⟨br, 0, none⟩)] W fun e W' =>
      (∃ x, e = .returned x) ∧ ∃ v', RS W' r v' (s.run c).1 ∧ StpN n0 W r v W' v' ∧ J (s.run c).2 W' := by
  obtain ⟨au, mu, ku, rfl⟩ := hu.shape
  have hc0 := hbc.cell (i := 0) (x := .slice au mu ku) rfl
  refine callsIn_of_wp Try.func26 rfl trivial ?_ rfl
  simp only [Try.ntmps26, List.size_toArray, List.length_cons, List.length_nil, Nat.reduceAdd, Nat.reduceSub, Array.replicate_succ, Array.replicate_zero, List.push_toArray, List.append_toArray, List.nil_append, List.cons_append]
  gi_wp2
  have HJ := Lib.hid hJ
  have hat : ∃ (pre suf : List UInt8) (v1 : Value) (wh : Bool), Value.bool false = .bool wh ∧ c = pre ++ suf ∧ Bts W (.slice au mu ku) suf ∧ ((Value.slice au mu ku).ownBlock = none ∨ (Value.slice au mu ku).ownBlock = (Value.slice au mu ku).ownBlock) ∧ RS W r v1 (s.run pre).1 ∧ (s.run pre).1.Ok false ∧ J (s.run pre).2 W ∧ StpN n0 W r v W v1 ∧ Blk W br 25 #[.pointer (some ⟨r, 0, none⟩)] :=
    ⟨[], c, v, false, rfl, rfl, hu, .inr rfl, hr, hok, h0, StpN.refl hr, hbr⟩
  have HAT := Lib.hid hat
  have HAP := Lib.hid hap
  clear hat hu hr hok h0 hbr hJ hap hbc hc0
  gi_loopw [4, 5] (fun rest whole wr => ∃ (pre suf : List UInt8) (v1 : Value) (wh : Bool), whole = .bool wh ∧ c = pre ++ suf ∧ Bts wr rest suf ∧ (rest.ownBlock = none ∨ rest.ownBlock = (Value.slice au mu ku).ownBlock) ∧ RS wr r v1 (s.run pre).1 ∧ (s.run pre).1.Ok false ∧ J (s.run pre).2 wr ∧ StpN n0 W r v wr v1 ∧ Blk wr br 25 #[.pointer (some ⟨r, 0, none⟩)])
    (fun rest _ _ => vlen rest)
  case atStart => exact HAT.out
  case round =>
    obtain ⟨pre, suf, v1, wh, rfl, hc, hsuf, hown, hr1, hok1, hJ1, hst, hbr⟩ := hrel
    have hb0 := hbr.cell (i := 0) (x := .pointer (some ⟨r, 0, none⟩)) rfl
    have hcame := Ms.run_came s pre
    have hcl := congrArg List.length hc
    rw [List.length_append] at hcl
    obtain ⟨a1, k1, rfl, hk1, hk2⟩ := hsuf.form
    have hk3 : (suf.length : Int) ≤ 9223372036854775807 := by unfold maxLen at hk2; omega
    by_cases hs0 : suf = []
    · subst hs0
      have HC := Lib.hid hc; have HS := Lib.hid hst; have HR := Lib.hid hr1; have HJ1 := Lib.hid hJ1
      clear hc hst hr1 hJ1 hsuf hcl hcame
      simp only [List.length_nil] at *
      gi_wp2
      go_end0
      refine ⟨⟨_, rfl⟩, v1, ?_, HS.out, ?_⟩
      · rw [HC.out, List.append_nil]; exact HR.out
      · rw [HC.out, List.append_nil]; exact HJ1.out
    · have hpos : 0 < suf.length := by cases suf with
        | nil => exact absurd rfl hs0
        | cons x l => simp
      have hpos' : (0 : Int) < suf.length := by omega
      have h9 : wr.cell? ⟨r, 9, none⟩ = some (.bool (s.run pre).1.shut) := by
        obtain ⟨_, _, _, _, hb, _, _⟩ := hr1
        exact hb.cell (i := 9) rfl
      by_cases hsh : (s.run pre).1.shut = true
      · rw [hsh] at h9
        have hend : s.run c = s.run pre := by rw [hc, Ms.run_append, Ms.run_shut _ suf hsh, List.append_nil]
        have HE := Lib.hid hend
        have HC := Lib.hid hc; have HS := Lib.hid hst; have HR := Lib.hid hr1; have HJ1 := Lib.hid hJ1
        clear hc hst hr1 hJ1 hsuf hcl hcame hend
        gi_wp2
        go_end0
        rw [HE.out]
        exact ⟨⟨_, rfl⟩, v1, HR.out, HS.out, HJ1.out⟩
      · have hsh' : (s.run pre).1.shut = false := by simpa using hsh
        rw [hsh'] at h9
        obtain ⟨hU0, hUR, hUV⟩ := HAP.out (by rw [hc]; simp [hs0])
        have HU0 := Lib.hid hU0; have HUR := Lib.hid hUR; have HUV := Lib.hid hUV; clear hU0 hUR hUV
        obtain ⟨used, f1, f2, f3, f4⟩ := Ms.frag_run (s.run pre).1 suf hok1 hsh' hs0
        have hur1 : (Value.slice a1 suf.length k1).ownBlock ≠ some r := by
          rcases hown with h | h
          · rw [h]; simp
          · rw [h]; exact HUR.out
        have hlt1 : ∀ g, (Value.slice a1 suf.length k1).ownBlock = some g → g < n0 := by
          intro g hg
          rcases hown with h | h
          · rw [h] at hg; cases hg
          · rw [h] at hg; exact HU0.out g hg
        have huv1 : (Value.slice a1 suf.length k1).ownBlock = none ∨ (Value.slice a1 suf.length k1).ownBlock ≠ v1.ownBlock := by
          rcases hown with h | h
          · exact .inl h
          · rw [h]; exact far_stpN hst HUV.out HU0.out
        have hf := frag_any r v1 _ (s.run pre).1 suf wr hr1 hok1 hsh' (by omega) hsuf hs0 hur1 huv1
        obtain ⟨s2, rest, wh2, hfr⟩ : ∃ s2 rest wh2, (s.run pre).1.frag suf = (s2, rest, wh2) := ⟨_, _, _, rfl⟩
        rw [hfr] at hf f1 f3 f4
        dsimp only at hf f1 f3 f4
        have hrun : s.run (pre ++ used) = ((s2.off wh2).1, (s.run pre).2 ++ (s2.off wh2).2) := by
          rw [Ms.run_append, f3]
        have hcu : c = (pre ++ used) ++ rest := by rw [hc, f1, List.append_assoc]
        have hlen : rest.length < suf.length := by
          have := congrArg List.length f1
          rw [List.length_append] at this
          cases used with
          | nil => exact absurd rfl f2
          | cons x l => simp at this; omega
        have hcn : (s.run pre).2.length < c.length := by
          have h1 := Ms.run_count s pre
          omega
        have HCN := Lib.hid hcn
        clear hcn
        have HC := Lib.hid hcu; have HS := Lib.hid hst; have HJ1 := Lib.hid hJ1; have HRUN := Lib.hid hrun; have HF4 := Lib.hid f4; have HF := Lib.hid hf; have HL := Lib.hid hlen
        have HB := Lib.hid hbr; have HOW := Lib.hid hown; have HR1 := Lib.hid hr1
        clear hc hst hr1 hJ1 hsuf hcl hcame hrun f1 f3 f4 hbr hown hcu hf hfr hlen hok1
        gi_wp2_with fail
        refine ⟨trivial, (callsIn_wide.2 HF.out).mono ?_⟩
        rintro e w2 ⟨v2, u2, rfl, p1, p2, p3, p4⟩
        obtain ⟨a2, k2, rfl, _, _⟩ := p2.form
        have hbr2 : Blk w2 br 25 #[.pointer (some ⟨r, 0, none⟩)] := by
          have hb := HB.out
          have h1 : br ≠ r := by
            obtain ⟨_, _, _, _, hb', _, _⟩ := HR1.out
            exact hb.ne hb' (by decide)
          unfold Blk at *
          rw [p3.kept.block br (Array.getElem?_eq_some_iff.1 hb).1 h1 (fun e => by
            obtain ⟨_, _, _, _, _, _, hv'⟩ := HR1.out
            obtain ⟨cur, hc'⟩ := hv'.blk br (room_own e.symm)
            exact (Blk.ne (t := 25) hb hc' (by decide)) rfl)]
          exact hb
        have hb02 := hbr2.cell (i := 0) (x := .pointer (some ⟨r, 0, none⟩)) rfl
        have hJ2 := HJ.out.abides _ _ _ _ _ _ HJ1.out HR1.out p3
        have hur2 : (Value.slice a2 rest.length k2).ownBlock ≠ some r := by
          rcases p4 with h | h
          · rw [h]; simp
          · rw [h]; exact hur1
        have hlt2 : ∀ g, (Value.slice a2 rest.length k2).ownBlock = some g → g < n0 := by
          intro g hg
          rcases p4 with h | h
          · rw [h] at hg; cases hg
          · rw [h] at hg; exact hlt1 g hg
        have huv2 : (Value.slice a2 rest.length k2).ownBlock = none ∨ (Value.slice a2 rest.length k2).ownBlock ≠ v2.ownBlock := by
          rcases p4 with h | h
          · exact .inl h
          · rw [h]; exact far_stp p3 huv1 (fun g hg => Nat.lt_of_lt_of_le (hlt1 g hg) (Nat.le_trans hn0 HS.out.size))
        have hbr' : br ≠ r := by
          obtain ⟨_, _, _, _, hb', _, _⟩ := p1
          exact hbr2.ne hb' (by decide)
        have HUR2 := Lib.hid hur2; have HLT2 := Lib.hid hlt2; have HUV2 := Lib.hid huv2; have HBR := Lib.hid hbr'
        clear hur2 hlt2 huv2 hbr' hur1 hlt1 huv1
        have P1 := Lib.hid p1; have P2 := Lib.hid p2; have P3 := Lib.hid p3; have P4 := Lib.hid p4; have HJ2 := Lib.hid hJ2; have HB2 := Lib.hid hbr2
        clear p1 p2 p3 p4 hJ2 hbr2 hb0 h9
        cases wh2 with
        | false =>
          gi_wp2_with fail
          refine ⟨trivial, ?_⟩
          gi_wp2_with fail
          refine ⟨fun _ h => (by cases h), ?_⟩
          gi_wp2_with fail
          go_roundw
          case rel =>
            refine ⟨pre ++ used, rest, v2, false, rfl, HC.out, P2.out, ?_, ?_, ?_, ?_, HS.out.trans (P3.out.n (Nat.le_trans hn0 HS.out.size)), HB2.out⟩
            · rcases P4.out with h | h
              · exact .inl h
              · rw [h]; exact HOW.out
            · rw [HRUN.out]; exact P1.out
            · rw [HRUN.out]; exact HF4.out
            · rw [HRUN.out]; simpa [Ms.off] using HJ2.out
          case measure => exact HL.out
        | true =>
          gi_wp2_with fail
          refine ⟨trivial, (callsIn_wide.2 (record_any r v2 s2 w2 P1.out)).mono ?_⟩
          rintro e w3 ⟨rfl, q1, q2⟩
          have hst3 := Stp.of_grown P1.out q2 (.inr rfl)
          have hJ3 := HJ.out.abides _ _ _ _ _ _ HJ2.out P1.out hst3
          obtain ⟨fn, tmps, assign, body, hy, hR⟩ := HJ.out.round _ s2.body _ _ _ hJ3 q1 (by have := HF4.out.body; omega) HCN.out
          simp only [txt] at hy
          have Q1 := Lib.hid q1; have Q2 := Lib.hid q2; have HST3 := Lib.hid hst3
          clear q1 q2 hst3 hJ3
          gi_wp2_with fail
          refine hR.mono ?_
          rintro e w4 ⟨rfl, y1, y2⟩
          have Y1 := Lib.hid y1; have Y2 := Lib.hid y2; clear y1 y2 hy hR
          gi_wp2_with fail
          go_roundw
          case rel =>
            have hst4 := (HS.out.trans (P3.out.n (Nat.le_trans hn0 HS.out.size))).trans ((HST3.out.n (Nat.le_trans (Nat.le_trans hn0 HS.out.size) P3.out.kept.size)).trans (Y2.out.stp Q1.out))
            refine ⟨pre ++ used, rest, .slice none 0 0, true, rfl, HC.out, ?_, ?_, ?_, ?_, ?_, hst4, ?_⟩
            · exact P2.out.stpN ((HST3.out.n (Nat.le_trans (Nat.le_trans hn0 HS.out.size) P3.out.kept.size)).trans (Y2.out.stp Q1.out)) HLT2.out HUR2.out HUV2.out
            · rcases P4.out with h | h
              · exact .inl h
              · rw [h]; exact HOW.out
            · rw [HRUN.out]; exact Y2.out.rs Q1.out
            · rw [HRUN.out]; exact Ms.Ok.new
            · rw [HRUN.out]; simpa [Ms.off] using Y1.out
            · exact Y2.out.blk (HB2.out.kept Q2.out (by simpa using HBR.out)) (by decide) (by decide)
          case measure => exact HL.out
end Go.Proofs.Ytahmpgaohjopeaa
