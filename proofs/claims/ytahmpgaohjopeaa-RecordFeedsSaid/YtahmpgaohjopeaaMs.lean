/- Records, byte by byte: the machine that a reader is. -/
import Derived.Test.YtahmpgaohjopeaaNum
namespace Go.Proofs.Ytahmpgaohjopeaa

/-- A reader's state: the bytes of the number that came, how many bytes are to come, whether the fragment is the last one, the record's bytes, how many bytes came, whether it is shut. -/
structure Ms where
  hd : List UInt8
  left : Nat
  last : Bool
  body : List UInt8
  came : Nat
  shut : Bool
deriving DecidableEq

def Ms.new : Ms := ⟨[], 0, false, [], 0, false⟩
def Ms.dead : Ms := ⟨[], 0, false, [], 0, true⟩

def headN : List UInt8 → Nat
  | [a, b, c, d] => (num4 a.toNat b.toNat c.toNat d.toNat).toNat
  | _ => 0

def Ms.opened (s : Ms) (n : Nat) : Ms := if 4096 - s.body.length < n % 2147483648 then .dead else { s with left := n % 2147483648, last := decide (2147483648 ≤ n) }

/-- The fragment is whole. -/
def Ms.done (s : Ms) : Ms × List (List UInt8) := if s.last = true then (.new, [s.body]) else ({ s with hd := [], left := 0, last := false }, [])

def Ms.stepB (s : Ms) (b : UInt8) : Ms × List (List UInt8) :=
  if s.shut = true then (s, [])
  else if s.hd.length < 3 then ({ s with hd := s.hd ++ [b], came := s.came + 1 }, [])
  else if s.hd.length = 3 then
    if (({ s with hd := s.hd ++ [b], came := s.came + 1 } : Ms).opened (headN (s.hd ++ [b]))).shut = true then (.dead, [])
    else if (({ s with hd := s.hd ++ [b], came := s.came + 1 } : Ms).opened (headN (s.hd ++ [b]))).left = 0 then (({ s with hd := s.hd ++ [b], came := s.came + 1 } : Ms).opened (headN (s.hd ++ [b]))).done
    else (({ s with hd := s.hd ++ [b], came := s.came + 1 } : Ms).opened (headN (s.hd ++ [b])), [])
  else if s.left ≤ 1 then ({ s with body := s.body ++ [b], left := 0, came := s.came + 1 } : Ms).done
  else ({ s with body := s.body ++ [b], left := s.left - 1, came := s.came + 1 }, [])

def Ms.run (s : Ms) : List UInt8 → Ms × List (List UInt8)
  | [] => (s, [])
  | b :: l => (((s.stepB b).1.run l).1, (s.stepB b).2 ++ ((s.stepB b).1.run l).2)

theorem Ms.run_nil (s : Ms) : s.run [] = (s, []) := rfl

theorem Ms.run_append (s : Ms) (a b : List UInt8) : s.run (a ++ b) = (((s.run a).1.run b).1, (s.run a).2 ++ ((s.run a).1.run b).2) := by
  induction a generalizing s with
  | nil => simp [Ms.run]
  | cons x l ih => simp [Ms.run, ih, List.append_assoc]

theorem Ms.run_shut (s : Ms) (l : List UInt8) (h : s.shut = true) : s.run l = (s, []) := by
  induction l with
  | nil => rfl
  | cons x l ih => simp [Ms.run, Ms.stepB, h, ih]

theorem Ms.done_came (s : Ms) : s.done.1.came ≤ s.came := by
  unfold Ms.done
  split
  · exact Nat.zero_le _
  · exact Nat.le_refl _
theorem Ms.opened_came (s : Ms) (n : Nat) : (s.opened n).came ≤ s.came := by
  unfold Ms.opened
  split
  · exact Nat.zero_le _
  · exact Nat.le_refl _
theorem Ms.stepB_came (s : Ms) (b : UInt8) : (s.stepB b).1.came ≤ s.came + 1 := by
  unfold Ms.stepB
  split
  · exact Nat.le_succ _
  · split
    · exact Nat.le_refl _
    · split
      · split
        · exact Nat.zero_le _
        · split
          · exact Nat.le_trans (Ms.done_came _) (Ms.opened_came _ _)
          · exact Ms.opened_came _ _
      · split
        · exact Ms.done_came _
        · exact Nat.le_refl _
theorem Ms.run_came (s : Ms) (l : List UInt8) : (s.run l).1.came ≤ s.came + l.length := by
  induction l generalizing s with
  | nil => exact Nat.le_refl _
  | cons x l ih =>
    have h1 := ih (s.stepB x).1
    have h2 := Ms.stepB_came s x
    simp only [Ms.run, List.length_cons]
    omega

theorem Ms.done_count (s : Ms) : s.done.2.length ≤ 1 := by
  unfold Ms.done
  split
  · exact Nat.le_refl _
  · exact Nat.zero_le _
theorem Ms.stepB_count (s : Ms) (b : UInt8) : (s.stepB b).2.length ≤ 1 := by
  unfold Ms.stepB
  split
  · exact Nat.zero_le _
  · split
    · exact Nat.zero_le _
    · split
      · split
        · exact Nat.zero_le _
        · split
          · exact Ms.done_count _
          · exact Nat.zero_le _
      · split
        · exact Ms.done_count _
        · exact Nat.zero_le _
theorem Ms.run_count (s : Ms) (l : List UInt8) : (s.run l).2.length ≤ l.length := by
  induction l generalizing s with
  | nil => exact Nat.le_refl _
  | cons x l ih =>
    have h1 := ih (s.stepB x).1
    have h2 := Ms.stepB_count s x
    simp only [Ms.run, List.length_cons, List.length_append]
    omega

/-- What holds of every state (wh: a record is whole, and is to be told). -/
structure Ms.Ok (s : Ms) (wh : Bool) : Prop where
  hd : s.hd.length ≤ 4
  four : s.hd.length = 4 → 0 < s.left
  zero : s.hd.length < 4 → s.left = 0 ∧ s.last = wh
  body : s.body.length + s.left ≤ 4096
  shut : s.shut = true → s = .dead

theorem Ms.Ok.new : Ms.new.Ok false := ⟨by decide, by decide, by decide, by decide, by intro h; cases h⟩
theorem Ms.Ok.dead : Ms.dead.Ok false := ⟨by decide, by decide, by decide, by decide, fun _ => rfl⟩

/-- Bytes of a number that is not whole by them. -/
theorem Ms.run_head (s : Ms) (c : List UInt8) (hs : s.shut = false) (h : s.hd.length + c.length < 4) : s.run c = ({ s with hd := s.hd ++ c, came := s.came + c.length }, []) := by
  induction c generalizing s with
  | nil => simp [Ms.run]
  | cons x l ih =>
    simp only [List.length_cons] at h
    have h3 : s.hd.length < 3 := by omega
    have e : s.stepB x = ({ s with hd := s.hd ++ [x], came := s.came + 1 }, []) := by unfold Ms.stepB; rw [if_neg (by simp [hs]), if_pos h3]
    rw [Ms.run, e, show (({ s with hd := s.hd ++ [x], came := s.came + 1 } : Ms), ([] : List (List UInt8))).1.run l = _ from ih { s with hd := s.hd ++ [x], came := s.came + 1 } hs (by simp; omega)]
    simp
    omega

/-- Bytes by which a number is whole. -/
theorem Ms.run_open (s : Ms) (c : List UInt8) (hs : s.shut = false) (h : s.hd.length + c.length = 4) (hc : c ≠ []) (t : Ms) (ht : t = ({ s with hd := s.hd ++ c, came := s.came + c.length } : Ms).opened (headN (s.hd ++ c))) :
    s.run c = if t.shut = true then (.dead, []) else if t.left = 0 then t.done else (t, []) := by
  obtain ⟨l, x, rfl⟩ : ∃ l x, c = l ++ [x] := ⟨c.dropLast, c.getLast hc, (List.dropLast_concat_getLast hc).symm⟩
  simp only [List.length_append, List.length_cons, List.length_nil] at h
  subst ht
  rw [Ms.run_append, Ms.run_head s l hs (by omega)]
  simp only [Ms.run, List.nil_append, List.append_nil]
  unfold Ms.stepB
  dsimp only
  rw [if_neg (by simp [hs]), if_neg (by simp; omega), if_pos (by simp; omega)]
  have e1 : s.hd ++ l ++ [x] = s.hd ++ (l ++ [x]) := by simp
  have e2 : s.came + l.length + 1 = s.came + (l ++ [x]).length := by simp; omega
  rw [e1, e2]

/-- Bytes of a fragment that is not whole by them. -/
theorem Ms.run_part (s : Ms) (c : List UInt8) (hs : s.shut = false) (h4 : s.hd.length = 4) (h : c.length < s.left) : s.run c = ({ s with body := s.body ++ c, left := s.left - c.length, came := s.came + c.length }, []) := by
  induction c generalizing s with
  | nil => simp [Ms.run]
  | cons x l ih =>
    simp only [List.length_cons] at h
    have e : s.stepB x = ({ s with body := s.body ++ [x], left := s.left - 1, came := s.came + 1 }, []) := by
      unfold Ms.stepB; rw [if_neg (by simp [hs]), if_neg (by omega), if_neg (by omega), if_neg (by omega)]
    rw [Ms.run, e, show (({ s with body := s.body ++ [x], left := s.left - 1, came := s.came + 1 } : Ms), ([] : List (List UInt8))).1.run l = _ from ih { s with body := s.body ++ [x], left := s.left - 1, came := s.came + 1 } hs h4 (by show l.length < s.left - 1; omega)]
    simp [Nat.sub_sub, Nat.add_comm]
    omega

/-- Bytes by which a fragment is whole. -/
theorem Ms.run_whole (s : Ms) (c : List UInt8) (hs : s.shut = false) (h4 : s.hd.length = 4) (h : c.length = s.left) (hc : c ≠ []) : s.run c = ({ s with body := s.body ++ c, left := 0, came := s.came + c.length } : Ms).done := by
  obtain ⟨l, x, rfl⟩ : ∃ l x, c = l ++ [x] := ⟨c.dropLast, c.getLast hc, (List.dropLast_concat_getLast hc).symm⟩
  simp only [List.length_append, List.length_cons, List.length_nil] at h
  rw [Ms.run_append, Ms.run_part s l hs h4 (by omega)]
  simp only [Ms.run, List.nil_append, List.append_nil]
  unfold Ms.stepB
  dsimp only
  rw [if_neg (by simp [hs]), if_neg (by omega), if_neg (by omega), if_pos (by omega)]
  have e2 : s.came + l.length + 1 = s.came + (l ++ [x]).length := by simp; omega
  rw [List.append_assoc, e2]

/-- What the number's bytes do (code: number). -/
def Ms.num (s : Ms) (c : List UInt8) : Ms × List UInt8 :=
  if s.hd.length = 4 then (s, c)
  else if s.hd.length + c.length < 4 then ({ s with hd := s.hd ++ c, came := s.came + c.length }, [])
  else (({ s with hd := s.hd ++ c.take (4 - s.hd.length), came := s.came + (4 - s.hd.length) } : Ms).opened (headN (s.hd ++ c.take (4 - s.hd.length))), c.drop (4 - s.hd.length))

/-- What a fragment's bytes do (code: fragment). -/
def Ms.frag (s : Ms) (c : List UInt8) : Ms × List UInt8 × Bool :=
  if (s.num c).1.hd.length < 4 then ((s.num c).1, (s.num c).2, false)
  else if (s.num c).2.length < (s.num c).1.left then ({ (s.num c).1 with body := (s.num c).1.body ++ (s.num c).2, left := (s.num c).1.left - (s.num c).2.length, came := (s.num c).1.came + (s.num c).2.length }, [], false)
  else ({ (s.num c).1 with hd := [], body := (s.num c).1.body ++ (s.num c).2.take (s.num c).1.left, left := 0, came := (s.num c).1.came + (s.num c).1.left }, (s.num c).2.drop (s.num c).1.left, (s.num c).1.last)

/-- What is behind a fragment: the record that it told, if any, is off. -/
def Ms.off (s : Ms) (whole : Bool) : Ms × List (List UInt8) := if whole = true then (.new, [s.body]) else (s, [])

/-- What a fragment's bytes do, behind its number. -/
def Ms.rest (s : Ms) (c : List UInt8) : Ms × List UInt8 × Bool :=
  if c.length < s.left then ({ s with body := s.body ++ c, left := s.left - c.length, came := s.came + c.length }, [], false)
  else ({ s with hd := [], body := s.body ++ c.take s.left, left := 0, came := s.came + s.left }, c.drop s.left, s.last)

theorem Ms.frag_eq (s : Ms) (c : List UInt8) : s.frag c = if (s.num c).1.hd.length < 4 then ((s.num c).1, (s.num c).2, false) else (s.num c).1.rest (s.num c).2 := rfl

theorem Ms.rest_run (s : Ms) (c : List UInt8) (h4 : s.hd.length = 4) (hl : 0 < s.left) (hb : s.body.length + s.left ≤ 4096) (hs : s.shut = false) :
    ∃ used, c = used ++ (s.rest c).2.1 ∧ s.run used = (s.rest c).1.off (s.rest c).2.2 ∧ (s.rest c).1.Ok (s.rest c).2.2 ∧ (s.rest c).1.shut = false ∧ (c ≠ [] → used ≠ []) := by
  unfold Ms.rest
  by_cases h : c.length < s.left
  · rw [if_pos h]
    refine ⟨c, by simp, Ms.run_part s c hs h4 h, ⟨by dsimp only; omega, fun _ => by dsimp only; omega, fun h => by dsimp only at h; omega, by simp; omega, fun h => by dsimp only at h; rw [hs] at h; cases h⟩, hs, id⟩
  · rw [if_neg h]
    refine ⟨c.take s.left, by simp, ?_, ?_, hs, fun hc h0 => ?_⟩
    · rw [Ms.run_whole s (c.take s.left) hs h4 (by simp; omega) (fun h0 => by have := congrArg List.length h0; rw [List.length_take, List.length_nil] at this; omega)]
      have e : (c.take s.left).length = s.left := by simp; omega
      unfold Ms.done Ms.off
      rw [e]
      dsimp only
      by_cases hla : s.last = true
      · rw [if_pos hla, if_pos hla]
      · rw [if_neg hla, if_neg hla]
        have : s.last = false := by simpa using hla
        rw [this]
    · refine ⟨by simp, fun h => by simp at h, fun _ => ⟨rfl, rfl⟩, by simp; omega, fun h => by dsimp only at h; rw [hs] at h; cases h⟩
    · have := congrArg List.length h0
      cases c with
      | nil => exact hc rfl
      | cons x l => simp at this; omega

theorem Ms.opened_shut (s : Ms) (n : Nat) (h : (s.opened n).shut = true) (hs : s.shut = false) : s.opened n = .dead := by
  unfold Ms.opened at *
  split at h
  · rename_i h1; rw [if_pos h1]
  · rw [show ({ s with left := n % 2147483648, last := decide (2147483648 ≤ n) } : Ms).shut = s.shut from rfl, hs] at h; cases h

theorem Ms.opened_open (s : Ms) (n : Nat) (h : (s.opened n).shut = false) : s.opened n = { s with left := n % 2147483648, last := decide (2147483648 ≤ n) } ∧ n % 2147483648 ≤ 4096 - s.body.length := by
  unfold Ms.opened at *
  split at h
  · cases h
  · rename_i h1; exact ⟨if_neg h1, by omega⟩

theorem Ms.num_bounds (s : Ms) (c : List UInt8) (hok : s.Ok false) (hs : s.shut = false) (h : ¬ (s.num c).1.hd.length < 4) : (s.num c).1.hd.length = 4 ∧ (s.num c).1.body.length + (s.num c).1.left ≤ 4096 ∧ (s.num c).1.came + (s.num c).2.length = s.came + c.length := by
  have hb := hok.body
  have hd := hok.hd
  unfold Ms.num at *
  by_cases h4 : s.hd.length = 4
  · rw [if_pos h4]; exact ⟨h4, hb, rfl⟩
  · rw [if_neg h4] at h ⊢
    by_cases hl : s.hd.length + c.length < 4
    · rw [if_pos hl] at h; simp at h; omega
    · rw [if_neg hl] at h ⊢
      dsimp only at h ⊢
      obtain ⟨t, ht⟩ : ∃ t, t = ({ s with hd := s.hd ++ c.take (4 - s.hd.length), came := s.came + (4 - s.hd.length) } : Ms).opened (headN (s.hd ++ c.take (4 - s.hd.length))) := ⟨_, rfl⟩
      rw [← ht] at h ⊢
      by_cases hsh : t.shut = true
      · rw [ht] at hsh
        have := Ms.opened_shut _ _ hsh hs
        rw [ht, this] at h
        exact absurd (by decide) h
      · have hsh' : t.shut = false := by simpa using hsh
        rw [ht] at hsh'
        obtain ⟨q1, q2⟩ := Ms.opened_open _ _ hsh'
        rw [← ht] at q1
        rw [q1]
        dsimp only at q2 ⊢
        refine ⟨by simp; omega, by omega, by simp; omega⟩

/-- A fragment, whole or not. -/
theorem Ms.frag_run (s : Ms) (c : List UInt8) (hok : s.Ok false) (hs : s.shut = false) (hc : c ≠ []) :
    ∃ used, c = used ++ (s.frag c).2.1 ∧ used ≠ [] ∧ s.run used = (s.frag c).1.off (s.frag c).2.2 ∧ (s.frag c).1.Ok (s.frag c).2.2 := by
  have hb := hok.body
  have hz := hok.zero
  rw [Ms.frag_eq]
  by_cases h4 : s.hd.length = 4
  · have e : s.num c = (s, c) := if_pos h4
    rw [e, if_neg (by dsimp only; omega)]
    obtain ⟨used, h1, h2, h3, _, h5⟩ := Ms.rest_run s c h4 (hok.four h4) hb hs
    exact ⟨used, h1, h5 hc, h2, h3⟩
  · have hd := hok.hd
    obtain ⟨z1, z2⟩ := hz (by omega)
    by_cases hl : s.hd.length + c.length < 4
    · have e : s.num c = ({ s with hd := s.hd ++ c, came := s.came + c.length }, []) := by unfold Ms.num; rw [if_neg h4, if_pos hl]
      rw [e, if_pos (by simpa using hl)]
      exact ⟨c, by simp, hc, Ms.run_head s c hs hl, ⟨by simp; omega, fun h => by simp at h; omega, fun _ => ⟨z1, z2⟩, hb, fun h => by dsimp only at h; rw [hs] at h; cases h⟩⟩
    · have hk : (c.take (4 - s.hd.length)).length = 4 - s.hd.length := by simp; omega
      have hne : c.take (4 - s.hd.length) ≠ [] := fun h0 => by have := congrArg List.length h0; rw [hk] at this; simp at this; omega
      obtain ⟨t, ht⟩ : ∃ t, t = ({ s with hd := s.hd ++ c.take (4 - s.hd.length), came := s.came + (c.take (4 - s.hd.length)).length } : Ms).opened (headN (s.hd ++ c.take (4 - s.hd.length))) := ⟨_, rfl⟩
      have hr := Ms.run_open s _ hs (by omega) hne t ht
      have e : s.num c = (t, c.drop (4 - s.hd.length)) := by unfold Ms.num; rw [if_neg h4, if_neg hl, ht, hk]
      rw [e]
      dsimp only
      by_cases hsh : t.shut = true
      · rw [if_pos hsh] at hr
        have hdead : t = .dead := by rw [ht]; exact Ms.opened_shut _ _ (by rw [← ht]; exact hsh) hs
        rw [hdead, if_pos (by decide)]
        exact ⟨_, by simp, hne, hr, Ms.Ok.dead⟩
      · have hsh' : t.shut = false := by simpa using hsh
        obtain ⟨q1, q2⟩ := Ms.opened_open _ _ (by rw [← ht]; exact hsh')
        rw [← ht] at q1
        have t4 : t.hd.length = 4 := by rw [q1]; simp; omega
        have tb : t.body.length + t.left ≤ 4096 := by rw [q1]; dsimp only at q2 ⊢; omega
        rw [if_neg (by omega)]
        rw [if_neg hsh] at hr
        by_cases hl0 : t.left = 0
        · rw [if_pos hl0] at hr
          have e2 : t.rest (c.drop (4 - s.hd.length)) = ({ t with hd := [], left := 0 }, c.drop (4 - s.hd.length), t.last) := by
            unfold Ms.rest
            rw [if_neg (by omega), hl0]
            simp
          rw [e2]
          refine ⟨_, by simp, hne, ?_, ⟨by simp, fun h => by simp at h, fun _ => ⟨rfl, rfl⟩, by dsimp only; omega, fun h => by dsimp only at h; rw [hsh'] at h; cases h⟩⟩
          rw [hr]
          unfold Ms.done Ms.off
          dsimp only
          by_cases hla : t.last = true
          · rw [if_pos hla, if_pos hla]
          · rw [if_neg hla, if_neg hla]
            have : t.last = false := by simpa using hla
            rw [this]
        · rw [if_neg hl0] at hr
          obtain ⟨used, h1, h2, h3, _, _⟩ := Ms.rest_run t (c.drop (4 - s.hd.length)) t4 (by omega) tb hsh'
          refine ⟨c.take (4 - s.hd.length) ++ used, ?_, by simp [hne], ?_, h3⟩
          · rw [List.append_assoc, ← h1, List.take_append_drop]
          · rw [Ms.run_append, hr, h2]
            simp

/-- Whatever comes, the state is one. -/
theorem Ms.run_ok : ∀ (n : Nat) (s : Ms) (l : List UInt8), l.length ≤ n → s.Ok false → (s.run l).1.Ok false
  | 0, s, l, hl, h => by
    obtain rfl : l = [] := List.eq_nil_of_length_eq_zero (by omega)
    exact h
  | n + 1, s, l, hl, h => by
    by_cases h0 : l = []
    · subst h0; exact h
    · by_cases hs : s.shut = true
      · rw [Ms.run_shut s l hs]; exact h
      · obtain ⟨used, f1, f2, f3, f4⟩ := Ms.frag_run s l h (by simpa using hs) h0
        rw [f1, Ms.run_append, f3]
        refine Ms.run_ok n _ _ ?_ ?_
        · have := congrArg List.length f1
          rw [List.length_append] at this
          cases used with
          | nil => exact absurd rfl f2
          | cons x l => simp at this; omega
        · unfold Ms.off
          split
          · exact Ms.Ok.new
          · rename_i hw
            have hw' : (s.frag l).2.2 = false := by simpa using hw
            rw [hw'] at f4
            exact f4

theorem Ms.new_ok (l : List UInt8) : (Ms.new.run l).1.Ok false := Ms.run_ok _ _ _ (Nat.le_refl _) Ms.Ok.new
theorem Ms.new_came (l : List UInt8) : (Ms.new.run l).1.came ≤ l.length := by
  have := Ms.run_came .new l
  simpa [Ms.new] using this

end Go.Proofs.Ytahmpgaohjopeaa
