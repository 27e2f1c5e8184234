/- The document's answers of layer 1: the reader's other methods. -/
import Derived.Test.YtpklgcinijlmmaaRefR
import Derived.Test.YtpklgcinijlmmaaOnto
namespace Go.Proofs.Ytpklgcinijlmmaa
open Go.RowKit

theorem RRd.then {w w1 w2 : World} {r : Nat} {g : Option Nat} {v : Value} {s : St} {e : Ending} (h : RRd w1 r g v s e w2) (hg : w.grownBy w1 (some r)) : RRd w r g v s e w2 := ⟨h.1, h.2.1, World.grownBy.trans hg h.2.2⟩

theorem RRdrS.bad {w : World} {r : Nat} {g : Option Nat} {s : St} (h : RRdrS w r g s) : w.cell? ⟨r, 1, none⟩ = some (.bool s.isNone) := by
  obtain ⟨v, h1, _⟩ := h
  exact h1.c1

theorem refFail_s (r : Nat) (g : Option Nat) (s : St) (w : World) (hr : RRdrS w r g s) :
    Calls Try.prog 95 #[.pointer (some ⟨r, 0, none⟩)] w (RRd w r g (.tuple #[]) none) := by
  obtain ⟨v, h1, _, _, h4, _⟩ := hr
  exact refFail_any r _ _ g w h4 h1

/-- A number of 64 bits is two words. -/
theorem rLong_words (s : St) : rLong s = (match (rWord (rWord s).2).2 with | none => (0, none) | some l => ((rWord s).1 * 4294967296 + (rWord (rWord s).2).1, some l)) := by
  match s with
  | none => rfl
  | some [] => rfl
  | some [_] => rfl
  | some [_, _] => rfl
  | some [_, _, _] => rfl
  | some [_, _, _, _] => rfl
  | some [_, _, _, _, _] => rfl
  | some [_, _, _, _, _, _] => rfl
  | some [_, _, _, _, _, _, _] => rfl
  | some (_ :: _ :: _ :: _ :: _ :: _ :: _ :: _ :: _) => rfl

theorem rWord_range (s : St) : 0 ≤ (rWord s).1 ∧ (rWord s).1 < 4294967296 := by
  unfold rWord
  split
  · exact n4_range _ _ _ _
  · simp

set_option maxRecDepth 20000 in
set_option maxHeartbeats 1000000 in
theorem refLong_s (r : Nat) (g : Option Nat) (s : St) (w : World) (hr : RRdrS w r g s) :
    Calls Try.prog 53 #[.pointer (some ⟨r, 0, none⟩)] w (RRd w r g (.int .u64 (rLong s).1) (rLong s).2) := by
  rw [rLong_words]
  have h1 := rWord_range s
  have h2 := rWord_range (rWord s).2
  have HW := Lib.hid (refWord_s r g s w hr)
  have HW2 := Lib.hid (fun w1 => refWord_s r g (rWord s).2 w1)
  clear hr
  generalize rWord s = p at *
  obtain ⟨n, s1⟩ := p
  simp only at *
  generalize rWord s1 = p at *
  obtain ⟨m, s2⟩ := p
  simp only at *
  obtain ⟨n0, n1⟩ := h1
  obtain ⟨m0, m1⟩ := h2
  go_enter Try.func53, Try.ntmps53
  go_wp2_with fail
  refine HW.out.mono ?_; rintro e w2 ⟨rfl, h2, h3⟩
  have H2 := Lib.hid h2; have H3 := Lib.hid h3; clear h2 h3
  go_wp2_with fail
  refine (HW2.out _ H2.out).mono ?_; rintro e w3 ⟨rfl, h2, h3⟩
  have hb := h2.bad
  have H4 := Lib.hid h2; have H5 := Lib.hid h3; clear h2 h3
  cases s2 with
  | none =>
    simp only [Option.isNone_none] at hb
    go_wp2_with fail
    go_ret
    exact ⟨rfl, H4.out, World.grownBy.trans H3.out H5.out⟩
  | some l =>
    simp only [Option.isNone_some] at hb
    go_wp2_with fail
    go_ret
    exact ⟨rfl, H4.out, World.grownBy.trans H3.out H5.out⟩

set_option maxRecDepth 20000 in
set_option maxHeartbeats 400000 in
theorem refInt_s (r : Nat) (g : Option Nat) (s : St) (w : World) (hr : RRdrS w r g s) :
    Calls Try.prog 54 #[.pointer (some ⟨r, 0, none⟩)] w (RRd w r g (.int .i64 (rInt s).1) (rInt s).2) := by
  have HT := Lib.hid (refLong_s r g s w hr)
  clear hr
  rw [show rInt s = (asInt (rLong s).1, (rLong s).2) from rfl]
  generalize rLong s = p at *
  obtain ⟨n, q⟩ := p
  go_enter Try.func54, Try.ntmps54
  go_wp2_with fail
  refine HT.out.mono ?_; rintro e w' ⟨rfl, h2, h3⟩; have H2 := Lib.hid h2; have H3 := Lib.hid h3; clear h2 h3
  go_wp2_with fail
  go_ret
  exact ⟨rfl, H2.out, H3.out⟩

/-- A count is a word that is not above. -/
theorem rCount_word (m : Int) (s : St) : rCount m s = (match (rWord s).2 with | none => (0, none) | some l => if (rWord s).1 ≤ m then ((rWord s).1, some l) else (0, none)) := by
  match s with
  | none => rfl
  | some [] => rfl
  | some [_] => rfl
  | some [_, _] => rfl
  | some [_, _, _] => rfl
  | some (_ :: _ :: _ :: _ :: _) => rfl

theorem rWord_none (s : St) (h : (rWord s).2 = none) : (rWord s).1 = 0 := by
  unfold rWord at *
  split at h
  · cases h
  · rfl

set_option maxRecDepth 20000 in
set_option maxHeartbeats 1000000 in
theorem refCount_s (r : Nat) (g : Option Nat) (s : St) (m : Int) (w : World) (hr : RRdrS w r g s) :
    Calls Try.prog 64 #[.pointer (some ⟨r, 0, none⟩), .int .i64 m] w (RRd w r g (.int .i64 (rCount m s).1) (rCount m s).2) := by
  rw [rCount_word]
  have h1 := rWord_range s
  have hz := rWord_none s
  have HW := Lib.hid (refWord_s r g s w hr)
  clear hr
  generalize rWord s = p at *
  obtain ⟨n, s1⟩ := p
  simp only at *
  obtain ⟨n0, n1⟩ := h1
  by_cases hm : n ≤ m
  · have hd : decide (m < n) = false := by rw [decide_eq_false_iff_not]; omega
    cases s1 with
    | none =>
      obtain rfl := hz rfl
      clear hz
      go_enter Try.func64, Try.ntmps64
      go_wp2_with fail
      refine HW.out.mono ?_; rintro e w2 ⟨rfl, h2, h3⟩
      have hb := h2.bad
      simp only [Option.isNone_none] at hb
      have H2 := Lib.hid h2; have H3 := Lib.hid h3; clear h2 h3
      go_wp2_with fail
      go_ret
      exact ⟨rfl, H2.out, H3.out⟩
    | some l =>
      clear hz
      simp only [if_pos hm]
      go_enter Try.func64, Try.ntmps64
      go_wp2_with fail
      refine HW.out.mono ?_; rintro e w2 ⟨rfl, h2, h3⟩
      have hb := h2.bad
      simp only [Option.isNone_some] at hb
      have H2 := Lib.hid h2; have H3 := Lib.hid h3; clear h2 h3
      go_wp2_with fail
      go_ret
      exact ⟨rfl, H2.out, H3.out⟩
  · have hd : decide (m < n) = true := by rw [decide_eq_true_iff]; omega
    have he : (match s1 with | none => ((0 : Int), (none : St)) | some l => if n ≤ m then (n, some l) else (0, none)) = (0, none) := by
      cases s1 with
      | none => rfl
      | some l => exact if_neg hm
    rw [he]
    clear he hz hm
    go_enter Try.func64, Try.ntmps64
    go_wp2_with fail
    refine HW.out.mono ?_; rintro e w2 ⟨rfl, h2, h3⟩
    have HF := Lib.hid (refFail_s r g _ w2 h2)
    have H3 := Lib.hid h3; clear h2 h3
    go_wp2_with fail
    refine HF.out.mono ?_; rintro e w3 ⟨rfl, h2, h3⟩
    have hb := h2.bad
    simp only [Option.isNone_none] at hb
    have H4 := Lib.hid h2; have H5 := Lib.hid h3; clear h2 h3
    go_wp2_with fail
    go_ret
    exact ⟨rfl, H4.out, World.grownBy.trans H3.out H5.out⟩

set_option maxRecDepth 20000 in
set_option maxHeartbeats 1000000 in
theorem refFlag_s (r : Nat) (g : Option Nat) (s : St) (w : World) (hr : RRdrS w r g s) :
    Calls Try.prog 63 #[.pointer (some ⟨r, 0, none⟩)] w (RRd w r g (.bool (rFlag s).1) (rFlag s).2) := by
  unfold rFlag
  rw [rCount_word]
  have h1 := rWord_range s
  have hz := rWord_none s
  have HW := Lib.hid (refWord_s r g s w hr)
  clear hr
  generalize rWord s = p at *
  obtain ⟨n, s1⟩ := p
  simp only at *
  obtain ⟨n0, n1⟩ := h1
  by_cases hm : n ≤ 1
  · have hd : decide (1 < n) = false := by rw [decide_eq_false_iff_not]; omega
    cases s1 with
    | none =>
      obtain rfl := hz rfl
      clear hz
      go_enter Try.func63, Try.ntmps63
      go_wp2_with fail
      refine HW.out.mono ?_; rintro e w2 ⟨rfl, h2, h3⟩
      have H2 := Lib.hid h2; have H3 := Lib.hid h3; clear h2 h3
      go_wp2_with fail
      go_ret
      exact ⟨rfl, H2.out, H3.out⟩
    | some l =>
      clear hz
      simp only [if_pos hm]
      go_enter Try.func63, Try.ntmps63
      go_wp2_with fail
      refine HW.out.mono ?_; rintro e w2 ⟨rfl, h2, h3⟩
      have H2 := Lib.hid h2; have H3 := Lib.hid h3; clear h2 h3
      go_wp2_with fail
      go_ret
      exact ⟨rfl, H2.out, H3.out⟩
  · have hd : decide (1 < n) = true := by rw [decide_eq_true_iff]; omega
    have hn1 : (n == 1) = false := by rw [beq_eq_false_iff_ne]; omega
    have he : (match s1 with | none => ((0 : Int), (none : St)) | some l => if n ≤ 1 then (n, some l) else (0, none)) = (0, none) := by
      cases s1 with
      | none => rfl
      | some l => exact if_neg hm
    rw [he]
    clear he hz hm
    go_enter Try.func63, Try.ntmps63
    go_wp2_with fail
    refine HW.out.mono ?_; rintro e w2 ⟨rfl, h2, h3⟩
    have HF := Lib.hid (refFail_s r g _ w2 h2)
    have H3 := Lib.hid h3; clear h2 h3
    go_wp2_with fail
    refine HF.out.mono ?_; rintro e w3 ⟨rfl, h2, h3⟩
    have H4 := Lib.hid h2; have H5 := Lib.hid h3; clear h2 h3
    go_wp2_with fail
    go_ret
    exact ⟨rfl, H4.out, World.grownBy.trans H3.out H5.out⟩

set_option maxRecDepth 20000 in
set_option maxHeartbeats 400000 in
theorem refDone_s (r : Nat) (g : Option Nat) (s : St) (w : World) (hr : RRdrS w r g s) :
    Calls Try.prog 55 #[.pointer (some ⟨r, 0, none⟩)] w fun e w' => e = .returned (.bool (rDone s)) ∧ w = w' := by
  obtain ⟨v, ht, hv, _⟩ := hr
  obtain ⟨a, c, rfl, hl, hm⟩ := hv.form
  have c0 := ht.c0
  have c1 := ht.c1
  have hE : rDone s = (!s.isNone && (((s.getD []).length : Int) == 0)) := by
    cases s with
    | none => rfl
    | some l => cases l with
      | nil => rfl
      | cons x l => show false = _; symm; rw [Bool.and_eq_false_iff]; right; rw [beq_eq_false_iff_ne]; show (((x :: l).length : Nat) : Int) ≠ 0; rw [List.length_cons]; omega
  rw [hE]
  clear ht hv hl hm hE
  generalize (s.getD []).length = n at *
  cases s with
  | none =>
    simp only [Option.isNone_none] at *
    go_enter Try.func55, Try.ntmps55
    go_wp2_with fail
    go_ret
    exact ⟨rfl, rfl⟩
  | some l =>
    simp only [Option.isNone_some] at *
    go_enter Try.func55, Try.ntmps55
    go_wp2_with fail
    go_ret
    exact ⟨rfl, rfl⟩

def RMade (w : World) (bs : List UInt8) (e : Ending) (w' : World) : Prop :=
  ∃ r g, e = .returned (.pointer (some ⟨r, 0, none⟩)) ∧ RRdrS w' r g (some bs) ∧ w.grownBy w' none ∧ w.heap.size ≤ r ∧ r < w'.heap.size ∧ (∀ k, g = some k → w.heap.size ≤ k ∧ k < w'.heap.size)

set_option maxRecDepth 20000 in
set_option maxHeartbeats 400000 in
theorem refNewReader_any (v : Value) (bs : List UInt8) (w : World) (hv : Bts w v bs) (hl : bs.length ≤ 100000000000) :
    Calls Try.prog 50 #[v] w (RMade w bs) := by
  have HO := Lib.hid (copy_nil w)
  have HB := Lib.hid (hv.new (World.grownBy_alloc w (.cells #[] 5) none))
  have HL : Hid (([] : List UInt8).length + bs.length ≤ 140737488355328) := Lib.hid (by simp; omega)
  obtain ⟨a, m, c, rfl⟩ := hv.shape
  clear hv hl
  go_enter Try.func50, Try.ntmps50
  go_wp2_with (at_builtin; refine wpList_append_bts rfl _ _ rfl _ _ _ _ _ rfl rfl HO.out HB.out HL.out (by simp) ?_; rintro v5 w5 ⟨h6, h7, h8⟩; obtain ⟨a5, n5, c5, rfl⟩ := h6.bts.shape; have H6 := Lib.hid h6; have H7 := Lib.hid h7; clear h6 h7 h8)
  go_ret
  have hg0 : w.grownBy w5 none := grown_own (World.grownBy_alloc _ _ _) H7.out (fun m hm => by cases hm; exact Nat.le_refl _)
  have hg := World.grownBy_alloc w5 (.cells #[.slice a5 n5 c5, .bool false] 132) none
  refine ⟨w5.heap.size, (Value.slice a5 n5 c5).ownBlock, rfl, ⟨.slice a5 n5 c5, Two.made w5 _ _ _, H6.out.bts.new hg, .inr rfl, ?_, fun h => by cases h⟩, World.grownBy.trans hg0 hg, hg0.size, by simp, ?_⟩
  · intro h
    have := (H6.out.lt _ h).2
    omega
  · intro k hk
    have := H6.out.lt _ hk
    exact ⟨this.1, by simp; omega⟩
end Go.Proofs.Ytpklgcinijlmmaa
