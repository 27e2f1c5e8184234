/- Contracts of xdr.Reader's methods, all cases of each in one: a reader's state is what is left, or none if it is bad. -/
import Derived.Test.YtpklgcinijlmmaaRdr4
import Derived.WalkLawsBesides
namespace Go.Proofs.Ytpklgcinijlmmaa
open Go.RowKit

/-- The first byte that is not 00 stands at j. -/
def FirstBad (zs : List UInt8) (j : Nat) : Prop := ∃ h : j < zs.length, (∀ i (hi : i < zs.length), i < j → zs[i] = 0) ∧ zs[j] ≠ 0

theorem firstBad_of (zs : List UInt8) (h : ¬ zeros zs) : ∃ j, FirstBad zs j := by
  induction zs with
  | nil => exact absurd (fun i hi => by simp at hi) h
  | cons x l ih =>
    by_cases hx : x = 0
    · have : ¬ zeros l := fun hl => h (fun i hi => by
        match i, hi with
        | 0, _ => exact hx
        | i + 1, hi => simpa using hl i (by simpa using hi))
      obtain ⟨j, hj, h1, h2⟩ := ih this
      refine ⟨j + 1, by simpa using hj, fun i hi hij => ?_, by simpa using h2⟩
      match i, hi with
      | 0, _ => exact hx
      | i + 1, hi => simpa using h1 i (by simpa using hi) (by omega)
    · exact ⟨0, by simp, fun i _ hi => by omega, hx⟩

set_option maxRecDepth 20000 in
set_option maxHeartbeats 800000 in
theorem fixed_nought (r : Nat) (g : Option Nat) (bs : List UInt8) (n : Nat) (w : World) (hr : Rdr w r g bs false) (hm : bs.length ≤ maxLen) (hp : n + pad n ≤ bs.length) (hz : ¬ zeros ((bs.drop n).take (pad n))) :
    Calls Try.prog 79 #[.pointer (some ⟨r, 0, none⟩), .int .i64 (n : Int)] w (ReadNo w r g (.string ⟨#[]⟩)) := by
  have HT := Lib.hid (take_yes r g n bs w hr (by omega) (by omega))
  have HF := Lib.hid (fun w => fill_any n w (by omega))
  have hl : (bs.drop n).length = bs.length - n := by simp
  have HR := Lib.hid (show ((pad n : Nat) : Int) ≤ (bs.drop n).length by omega)
  obtain ⟨j, hj⟩ := firstBad_of _ hz
  have hl2 : ((bs.drop n).take (pad n)).length ≤ 9223372036854775807 := by unfold maxLen at hm; simp; omega
  clear hr hm hp hl hz
  go_enter Try.func79, Try.ntmps79
  go_wp2_with fail
  refine HT.out.mono ?_; rintro e w' ⟨v1, rfl, h1, h2, h3, h4⟩
  rw [Int.toNat_natCast] at h3 h1
  have HT2 := Lib.hid (take_yes r g (pad n : Int) _ w' h3 (by omega) HR.out); have H4 := Lib.hid h4; clear h1 h2 h3 h4
  rw [Int.toNat_natCast] at HT2
  generalize List.take (pad n) (List.drop n bs) = zs at *
  generalize List.drop (pad n) (List.drop n bs) = rest at *
  generalize ((pad n : Nat) : Int) = q at *
  go_wp2_with fail
  refine (HF.out _).mono ?_; rintro e w2 ⟨rfl, rfl⟩
  go_wp2_with fail
  refine HT2.out.mono ?_; rintro e w3 ⟨v2, rfl, h5, h6, h7, h8⟩
  obtain ⟨v7, h9, _, _, h10, _⟩ := h7
  have HF2 := Lib.hid (fail_any r v7 _ w3 h9)
  have H8 := Lib.hid h8; have H10 := Lib.hid h10; clear h6 h8 h9 h10
  obtain ⟨hjl, hz0, hzj⟩ := hj
  obtain ⟨gb, o, c, rfl, hc⟩ := h5.cell (by omega)
  have hcell : ∀ k, k < j → w3.cell? ⟨gb, o + k, none⟩ = some (.int .u8 0) := fun k hk => by rw [hc k (by omega), hz0 k (by omega) hk]; rfl
  have hcj := hc j hjl
  have hne : ((zs[j].toNat : Int) != 0) = true := by
    rw [bne_iff_ne]
    intro h
    exact hzj (UInt8.toNat_inj.1 (by simpa using h))
  clear hc h5 hz0 hzj
  generalize zs[j].toNat = y at *
  generalize zs.length = l at *
  go_wp2_with fail
  go_loop [29] (fun i => ∃ k : Nat, k ≤ j ∧ i = .int .i64 k) (fun i => j - (intOf i).toNat)
  case atStart => exact ⟨0, Nat.zero_le _, rfl⟩
  case round =>
    obtain ⟨k, hk, rfl⟩ := hrel
    have hcl := hcell k
    have hkl : k < l := by omega
    clear hcell
    by_cases hlt : k < j
    · have hcl := hcl hlt
      clear hcj hne
      go_wp2
      go_round
      case rel => exact ⟨k + 1, by omega, by go_num⟩
      case measure => simp [intOf]; omega
    · obtain rfl : k = j := by omega
      clear hcl hlt
      go_wp2_with fail
      refine HF2.out.mono ?_; rintro e w4 ⟨rfl, h11, h12⟩
      have H11 := Lib.hid h11; have H12 := Lib.hid h12; clear h11 h12
      go_wp2
      go_ret
      exact ⟨rfl, Rdr.failed H11.out H10.out, World.grownBy.trans H4.out (World.grownBy.trans H8.out H12.out)⟩

/-- A reader's state. -/
abbrev St := Option (List UInt8)

def RdrS (w : World) (r : Nat) (g : Option Nat) (s : St) : Prop := Rdr w r g (s.getD []) s.isNone

/-- A read: what was told, and the reader's state then. -/
def Rd (w : World) (r : Nat) (g : Option Nat) (v : Value) (s : St) (e : Ending) (w' : World) : Prop :=
  e = .returned v ∧ RdrS w' r g s ∧ w.grownBy w' (some r)

theorem Rd.yes {w w' : World} {r : Nat} {g : Option Nat} {v : Value} {bs : List UInt8} {e : Ending} (h : ReadYes w r g v bs e w') : Rd w r g v (some bs) e w' := h
theorem Rd.no {w w' : World} {r : Nat} {g : Option Nat} {v : Value} {e : Ending} (h : ReadNo w r g v e w') : Rd w r g v none e w' := h

def n4 (a b c d : UInt8) : Int := num4 a.toNat b.toNat c.toNat d.toNat
def n8 (a b c d a' b' c' d' : UInt8) : Int := num8 a.toNat b.toNat c.toNat d.toNat a'.toNat b'.toNat c'.toNat d'.toNat

def rWord : St → Int × St
  | some (a :: b :: c :: d :: bs) => (n4 a b c d, some bs)
  | _ => (0, none)

def rLong : St → Int × St
  | some (a :: b :: c :: d :: a' :: b' :: c' :: d' :: bs) => (n8 a b c d a' b' c' d', some bs)
  | _ => (0, none)

def rInt (s : St) : Int × St := (asInt (rLong s).1, (rLong s).2)

def rCount (m : Int) : St → Int × St
  | some (a :: b :: c :: d :: bs) => if n4 a b c d ≤ m then (n4 a b c d, some bs) else (0, none)
  | _ => (0, none)

def rFlag (s : St) : Bool × St := ((rCount 1 s).1 == 1, (rCount 1 s).2)

instance (zs : List UInt8) : Decidable (zeros zs) := by unfold zeros; infer_instance

def rFixed (n : Int) : St → List UInt8 × St
  | none => ([], none)
  | some bs => if 0 ≤ n ∧ n.toNat + pad n.toNat ≤ bs.length ∧ zeros ((bs.drop n.toNat).take (pad n.toNat)) then (bs.take n.toNat, some (bs.drop (n.toNat + pad n.toNat))) else ([], none)

def rText (m : Int) (s : St) : List UInt8 × St := rFixed (rCount (max m 0) s).1 (rCount (max m 0) s).2

theorem short_of {bs : List UInt8} (h : ∀ a b c d l, bs ≠ a :: b :: c :: d :: l) : bs.length < 4 := by
  match bs, h with
  | [], _ => simp
  | [_], _ => simp
  | [_, _], _ => simp
  | [_, _, _], _ => simp
  | a :: b :: c :: d :: l, h => exact absurd rfl (h a b c d l)

theorem Rdr.len {w : World} {r : Nat} {g : Option Nat} {bs : List UInt8} {bad : Bool} (h : Rdr w r g bs bad) : bs.length ≤ maxLen := by
  obtain ⟨v, _, h2, _⟩ := h
  obtain ⟨a, c, _, h3, h4⟩ := h2.form
  omega

theorem word_s (r : Nat) (g : Option Nat) (s : St) (w : World) (hr : RdrS w r g s) :
    Calls Try.prog 99 #[.pointer (some ⟨r, 0, none⟩)] w (Rd w r g (.int .u32 (rWord s).1) (rWord s).2) := by
  match s, hr with
  | none, hr => exact (word_no r g [] true w hr (.inr rfl)).mono fun _ _ h => Rd.no h
  | some (a :: b :: c :: d :: bs), hr => exact (word_yes r g a b c d bs w hr).mono fun _ _ h => Rd.yes h
  | some [], hr => exact (word_no r g _ false w hr (.inl (by simp))).mono fun _ _ h => Rd.no h
  | some [_], hr => exact (word_no r g _ false w hr (.inl (by simp))).mono fun _ _ h => Rd.no h
  | some [_, _], hr => exact (word_no r g _ false w hr (.inl (by simp))).mono fun _ _ h => Rd.no h
  | some [_, _, _], hr => exact (word_no r g _ false w hr (.inl (by simp))).mono fun _ _ h => Rd.no h

theorem long_s (r : Nat) (g : Option Nat) (s : St) (w : World) (hr : RdrS w r g s) :
    Calls Try.prog 74 #[.pointer (some ⟨r, 0, none⟩)] w (Rd w r g (.int .u64 (rLong s).1) (rLong s).2) := by
  match s, hr with
  | none, hr => exact (long_no r g [] true w hr (.inr rfl)).mono fun _ _ h => Rd.no h
  | some (a :: b :: c :: d :: a' :: b' :: c' :: d' :: bs), hr => exact (long_yes r g a b c d a' b' c' d' bs w hr).mono fun _ _ h => Rd.yes h
  | some [], hr => exact (long_no r g _ false w hr (.inl (by simp))).mono fun _ _ h => Rd.no h
  | some [_], hr => exact (long_no r g _ false w hr (.inl (by simp))).mono fun _ _ h => Rd.no h
  | some [_, _], hr => exact (long_no r g _ false w hr (.inl (by simp))).mono fun _ _ h => Rd.no h
  | some [_, _, _], hr => exact (long_no r g _ false w hr (.inl (by simp))).mono fun _ _ h => Rd.no h
  | some [_, _, _, _], hr => exact (long_no r g _ false w hr (.inl (by simp))).mono fun _ _ h => Rd.no h
  | some [_, _, _, _, _], hr => exact (long_no r g _ false w hr (.inl (by simp))).mono fun _ _ h => Rd.no h
  | some [_, _, _, _, _, _], hr => exact (long_no r g _ false w hr (.inl (by simp))).mono fun _ _ h => Rd.no h
  | some [_, _, _, _, _, _, _], hr => exact (long_no r g _ false w hr (.inl (by simp))).mono fun _ _ h => Rd.no h

set_option maxRecDepth 20000 in
set_option maxHeartbeats 400000 in
theorem int_s (r : Nat) (g : Option Nat) (s : St) (w : World) (hr : RdrS w r g s) :
    Calls Try.prog 73 #[.pointer (some ⟨r, 0, none⟩)] w (Rd w r g (.int .i64 (rInt s).1) (rInt s).2) := by
  have HT := Lib.hid (long_s r g s w hr)
  clear hr
  rw [show rInt s = (asInt (rLong s).1, (rLong s).2) from rfl]
  generalize rLong s = p at *
  obtain ⟨n, q⟩ := p
  go_enter Try.func73, Try.ntmps73
  go_wp2_with (first | (go_at_call 74; refine HT.out.mono ?_; rintro e w' ⟨rfl, h2, h3⟩; have H2 := Lib.hid h2; have H3 := Lib.hid h3; clear h2 h3))
  go_ret
  exact ⟨rfl, H2.out, H3.out⟩

theorem count_s (r : Nat) (g : Option Nat) (s : St) (m : Int) (w : World) (hr : RdrS w r g s) :
    Calls Try.prog 77 #[.pointer (some ⟨r, 0, none⟩), .int .i64 m] w (Rd w r g (.int .i64 (rCount m s).1) (rCount m s).2) := by
  match s, hr with
  | none, hr => exact (count_no r g [] true m w hr (.inr rfl)).mono fun _ _ h => Rd.no h
  | some (a :: b :: c :: d :: bs), hr =>
    by_cases h : n4 a b c d ≤ m
    · simp only [rCount, if_pos h]
      exact (count_yes r g a b c d bs m w hr h).mono fun _ _ h => Rd.yes h
    · simp only [rCount, if_neg h]
      exact (count_far r g a b c d bs m w hr (by unfold n4 at h; omega)).mono fun _ _ h => Rd.no h
  | some [], hr => exact (count_no r g _ false m w hr (.inl (by simp))).mono fun _ _ h => Rd.no h
  | some [_], hr => exact (count_no r g _ false m w hr (.inl (by simp))).mono fun _ _ h => Rd.no h
  | some [_, _], hr => exact (count_no r g _ false m w hr (.inl (by simp))).mono fun _ _ h => Rd.no h
  | some [_, _, _], hr => exact (count_no r g _ false m w hr (.inl (by simp))).mono fun _ _ h => Rd.no h

theorem fixed_s (r : Nat) (g : Option Nat) (s : St) (n : Int) (w : World) (hr : RdrS w r g s) :
    Calls Try.prog 79 #[.pointer (some ⟨r, 0, none⟩), .int .i64 n] w (Rd w r g (.string ⟨(rFixed n s).1.toArray⟩) (rFixed n s).2) := by
  match s, hr with
  | none, hr => exact (fixed_short r g [] true n w hr (.inr (.inr rfl))).mono fun _ _ h => Rd.no h
  | some bs, hr =>
    have hm : bs.length ≤ maxLen := Rdr.len hr
    by_cases h0 : 0 ≤ n
    · obtain ⟨k, rfl⟩ := Int.eq_ofNat_of_zero_le h0
      by_cases h1 : k + pad k ≤ bs.length
      · by_cases h2 : zeros ((bs.drop k).take (pad k))
        · have h : 0 ≤ (k : Int) ∧ (k : Int).toNat + pad (k : Int).toNat ≤ bs.length ∧ zeros ((bs.drop (k : Int).toNat).take (pad (k : Int).toNat)) := ⟨h0, h1, h2⟩
          rw [show rFixed (k : Int) (some bs) = (bs.take k, some (bs.drop (k + pad k))) from if_pos h]
          exact (fixed_yes r g bs k w hr hm h1 h2).mono fun _ _ h => Rd.yes h
        · have h : ¬ (0 ≤ (k : Int) ∧ (k : Int).toNat + pad (k : Int).toNat ≤ bs.length ∧ zeros ((bs.drop (k : Int).toNat).take (pad (k : Int).toNat))) := fun h => h2 h.2.2
          rw [show rFixed (k : Int) (some bs) = ([], none) from if_neg h]
          exact (fixed_nought r g bs k w hr hm h1 h2).mono fun _ _ h => Rd.no h
      · have h : ¬ (0 ≤ (k : Int) ∧ (k : Int).toNat + pad (k : Int).toNat ≤ bs.length ∧ zeros ((bs.drop (k : Int).toNat).take (pad (k : Int).toNat))) := fun h => h1 h.2.1
        rw [show rFixed (k : Int) (some bs) = ([], none) from if_neg h]
        by_cases h3 : k ≤ bs.length
        · exact (fixed_edge r g bs k w hr h3 hm (by omega)).mono fun _ _ h => Rd.no h
        · exact (fixed_short r g bs false k w hr (.inr (.inl (by omega)))).mono fun _ _ h => Rd.no h
    · have h : ¬ (0 ≤ n ∧ n.toNat + pad n.toNat ≤ bs.length ∧ zeros ((bs.drop n.toNat).take (pad n.toNat))) := fun h => h0 h.1
      rw [show rFixed n (some bs) = ([], none) from if_neg h]
      exact (fixed_short r g bs false n w hr (.inl (by omega))).mono fun _ _ h => Rd.no h

set_option maxRecDepth 20000 in
set_option maxHeartbeats 400000 in
theorem text_s (r : Nat) (g : Option Nat) (s : St) (m : Int) (w : World) (hr : RdrS w r g s) :
    Calls Try.prog 76 #[.pointer (some ⟨r, 0, none⟩), .int .i64 m] w (Rd w r g (.string ⟨(rText m s).1.toArray⟩) (rText m s).2) := by
  have HC := Lib.hid (fun m => count_s r g s m w hr)
  clear hr
  by_cases h0 : 0 ≤ m
  · have hx : max m 0 = m := by omega
    rw [show rText m s = rFixed (rCount m s).1 (rCount m s).2 by unfold rText; rw [hx]]
    clear hx
    go_enter Try.func76, Try.ntmps76
    go_wp2_with fail
    refine (HC.out _).mono ?_; rintro e w2 ⟨rfl, h2, h3⟩
    have HX := Lib.hid (fun n => fixed_s r g _ n _ h2); have H3 := Lib.hid h3; clear h2 h3
    generalize rCount m s = p at *
    obtain ⟨n, q⟩ := p
    go_wp2_with fail
    refine (HX.out _).mono ?_; rintro e w3 ⟨rfl, h4, h5⟩
    have H4 := Lib.hid h4; have H5 := Lib.hid h5; clear h4 h5
    go_wp2_with fail
    go_ret
    exact ⟨rfl, H4.out, World.grownBy.trans H3.out H5.out⟩
  · have hx : max m 0 = 0 := by omega
    rw [show rText m s = rFixed (rCount 0 s).1 (rCount 0 s).2 by unfold rText; rw [hx]]
    clear hx
    go_enter Try.func76, Try.ntmps76
    go_wp2_with fail
    refine (HC.out _).mono ?_; rintro e w2 ⟨rfl, h2, h3⟩
    have HX := Lib.hid (fun n => fixed_s r g _ n _ h2); have H3 := Lib.hid h3; clear h2 h3
    generalize rCount 0 s = p at *
    obtain ⟨n, q⟩ := p
    go_wp2_with fail
    refine (HX.out _).mono ?_; rintro e w3 ⟨rfl, h4, h5⟩
    have H4 := Lib.hid h4; have H5 := Lib.hid h5; clear h4 h5
    go_wp2_with fail
    go_ret
    exact ⟨rfl, H4.out, World.grownBy.trans H3.out H5.out⟩

set_option maxRecDepth 20000 in
set_option maxHeartbeats 400000 in
theorem flag_s (r : Nat) (g : Option Nat) (s : St) (w : World) (hr : RdrS w r g s) :
    Calls Try.prog 75 #[.pointer (some ⟨r, 0, none⟩)] w (Rd w r g (.bool (rFlag s).1) (rFlag s).2) := by
  have HC := Lib.hid (count_s r g s 1 w hr)
  clear hr
  rw [show rFlag s = ((rCount 1 s).1 == 1, (rCount 1 s).2) from rfl]
  generalize rCount 1 s = p at *
  obtain ⟨n, q⟩ := p
  go_enter Try.func75, Try.ntmps75
  go_wp2_with fail
  refine (HC.out).mono ?_; rintro e w2 ⟨rfl, h2, h3⟩
  have H2 := Lib.hid h2; have H3 := Lib.hid h3; clear h2 h3
  go_wp2_with fail
  go_ret
  exact ⟨rfl, H2.out, H3.out⟩

/-- How many bytes are left. -/
def rLeft (s : St) : Nat := (s.getD []).length

theorem ok_s (r : Nat) (g : Option Nat) (s : St) (w : World) (hr : RdrS w r g s) :
    Calls Try.prog 81 #[.pointer (some ⟨r, 0, none⟩)] w fun e w' => e = .returned (.bool s.isSome) ∧ w = w' := by
  obtain ⟨v, h1, h2, _⟩ := hr
  have h := ok_any r v _ w h1
  rw [show (!s.isNone) = s.isSome by cases s <;> rfl] at h
  exact h

theorem left_s (r : Nat) (g : Option Nat) (s : St) (w : World) (hr : RdrS w r g s) :
    Calls Try.prog 82 #[.pointer (some ⟨r, 0, none⟩)] w fun e w' => e = .returned (.int .i64 (rLeft s)) ∧ w = w' := by
  obtain ⟨v, h1, h2, _⟩ := hr
  exact left_any r v _ _ w h2 h1

/-- Was all read? -/
def rDone : St → Bool
  | some [] => true
  | _ => false

set_option maxRecDepth 20000 in
set_option maxHeartbeats 400000 in
theorem done_s (r : Nat) (g : Option Nat) (s : St) (w : World) (hr : RdrS w r g s) :
    Calls Try.prog 33 #[.pointer (some ⟨r, 0, none⟩)] w fun e w' => e = .returned (.bool (rDone s)) ∧ w = w' := by
  have HO := Lib.hid (ok_s r g s w hr)
  have HL := Lib.hid (left_s r g s w hr)
  clear hr
  cases s with
  | none =>
    go_enter Try.func33, Try.ntmps33
    go_wp2_with fail
    refine HO.out.mono ?_; rintro e w2 ⟨rfl, rfl⟩
    go_wp2_with fail
    go_ret
    exact ⟨rfl, rfl⟩
  | some l =>
    have HE : Hid (rDone (some l) = ((rLeft (some l) : Int) == 0)) := Lib.hid (by cases l with
      | nil => rfl
      | cons x l => show false = _; symm; rw [beq_eq_false_iff_ne]; show (((x :: l).length : Nat) : Int) ≠ 0; rw [List.length_cons]; omega)
    rw [HE.out]
    generalize rLeft (some l) = n at *
    clear HE
    go_enter Try.func33, Try.ntmps33
    go_wp2_with fail
    refine HO.out.mono ?_; rintro e w2 ⟨rfl, rfl⟩
    go_wp2_with fail
    refine HL.out.mono ?_; rintro e w2 ⟨rfl, rfl⟩
    go_wp2_with fail
    go_ret
    exact ⟨rfl, rfl⟩
end Go.Proofs.Ytpklgcinijlmmaa
