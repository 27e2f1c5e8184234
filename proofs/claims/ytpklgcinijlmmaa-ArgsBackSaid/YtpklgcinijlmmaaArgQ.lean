/- Arguments as words: what was read is written by just these bytes; how long they are (plain facts). -/
import Derived.Test.YtpklgcinijlmmaaArgP
namespace Go.Proofs.Ytpklgcinijlmmaa
open Go.RowKit

theorem hRd_onto {s t : List UInt8} {g : Hn} (h : hRd (some s) = ((g, true), some t)) : s = hB fnv g ++ t ∧ hMay g := by
  unfold hRd at h
  obtain ⟨q, hq⟩ : ∃ q, rFixed 24 (some s) = q := ⟨_, rfl⟩
  rw [hq] at h
  obtain ⟨tx, st⟩ := q
  dsimp only at h
  obtain ⟨⟨d, f⟩, hd⟩ : ∃ p, hDec fnv tx = p := ⟨_, rfl⟩
  rw [hd] at h
  simp only [Prod.mk.injEq, beq_iff_eq] at h
  obtain ⟨⟨rfl, rfl⟩, rfl⟩ := h
  obtain ⟨h1, h2, h3⟩ := hDec_ok hd
  have e := rFixed_onto hq
  have e2 : fixedB tx = tx := by
    unfold fixedB
    rw [h1, show pad 24 = 0 from rfl, List.replicate_zero, List.append_nil]
  rw [e2] at e
  rw [h3]
  exact ⟨e, h2⟩
theorem rText_most {m : Int} {s y : List UInt8} {st : St} (h : rText m (some s) = (y, st)) (hm : 0 ≤ m) : (y.length : Int) ≤ m := by
  cases st with
  | none => rw [rText_empty h]; simpa using hm
  | some u =>
    unfold rText at h
    obtain ⟨q, hq⟩ : ∃ q, rCount (max m 0) (some s) = q := ⟨_, rfl⟩
    rw [hq] at h
    obtain ⟨n, st⟩ := q
    cases st with
    | none => simp only [rFixed] at h; cases h
    | some u' =>
      have h1 := rFixed_len h
      obtain ⟨_, _, h2, _⟩ := rCount_onto hq
      rw [show max m 0 = m by omega] at h2
      omega

theorem RD_none {c : UInt8} (hc : isL c) (z : PA) (ok : Bool) : (RD (z, ok, none) c).2.2 = none := by
  rcases hc with rfl | rfl | rfl | rfl | rfl | rfl | rfl | rfl | rfl | rfl | rfl | rfl <;> rfl
theorem RDs_none (l : List UInt8) (h : ∀ c ∈ l, isL c) : ∀ (y : PA × Bool × St), y.2.2 = none → (l.foldl RD y).2.2 = none := by
  induction l with
  | nil => intro y e; exact e
  | cons c l ih =>
    intro y e
    rw [List.foldl_cons]
    obtain ⟨z, ok, st⟩ := y
    dsimp only at e
    subst e
    exact ih (fun d hd => h d (by simp [hd])) _ (RD_none (h c (by simp)) z ok)

set_option maxHeartbeats 2000000 in
/-- One field, read: what was read is written by the bytes that it was read of. -/
theorem RD_onto {c : UInt8} (hc : isL c) {z z' : PA} {ok ok' : Bool} {s t : List UInt8} (h : RD (z, ok, some s) c = (z', ok', some t)) (hk : ok' = true) :
    ok = true ∧ s = aF z' c ++ t ∧ okF c z' ∧ ∀ d, isL d → d ≠ c → eqF d z z' := by
  rcases hc with rfl | rfl | rfl | rfl | rfl | rfl | rfl | rfl | rfl | rfl | rfl | rfl
  · have h1 : ({ z with h := (hRd (some s)).1.1 }, ok && (hRd (some s)).1.2, (hRd (some s)).2) = (z', ok', some t) := h
    obtain ⟨q, hq⟩ : ∃ q, hRd (some s) = q := ⟨_, rfl⟩
    rw [hq] at h1
    obtain ⟨⟨g, y⟩, st⟩ := q
    cases h1
    have hy : ok = true ∧ y = true := by simpa using hk
    obtain ⟨rfl, rfl⟩ := hy
    obtain ⟨e1, e2⟩ := hRd_onto hq
    refine ⟨rfl, ?_, e2, ?_⟩
    · show s = (hEnc fnv g).1 ++ t
      rw [hEnc_of e2]
      exact e1
    · intro d hd hne
      rcases hd with rfl | rfl | rfl | rfl | rfl | rfl | rfl | rfl | rfl | rfl | rfl | rfl
      all_goals first | exact absurd rfl hne | rfl
  · have h1 : ({ z with t := (hRd (some s)).1.1 }, ok && (hRd (some s)).1.2, (hRd (some s)).2) = (z', ok', some t) := h
    obtain ⟨q, hq⟩ : ∃ q, hRd (some s) = q := ⟨_, rfl⟩
    rw [hq] at h1
    obtain ⟨⟨g, y⟩, st⟩ := q
    cases h1
    have hy : ok = true ∧ y = true := by simpa using hk
    obtain ⟨rfl, rfl⟩ := hy
    obtain ⟨e1, e2⟩ := hRd_onto hq
    refine ⟨rfl, ?_, e2, ?_⟩
    · show s = (hEnc fnv g).1 ++ t
      rw [hEnc_of e2]
      exact e1
    · intro d hd hne
      rcases hd with rfl | rfl | rfl | rfl | rfl | rfl | rfl | rfl | rfl | rfl | rfl | rfl
      all_goals first | exact absurd rfl hne | rfl
  · have h1 : ({ z with n := (rText 255 (some s)).1 }, ok, (rText 255 (some s)).2) = (z', ok', some t) := h
    obtain ⟨q, hq⟩ : ∃ q, rText 255 (some s) = q := ⟨_, rfl⟩
    rw [hq] at h1
    obtain ⟨y, st⟩ := q
    cases h1
    have e3 := rText_onto hq
    have e1 : y.length ≤ 255 := Int.ofNat_le.1 (rText_most hq (by omega))
    refine ⟨hk, e3, e1, ?_⟩
    intro d hd hne
    rcases hd with rfl | rfl | rfl | rfl | rfl | rfl | rfl | rfl | rfl | rfl | rfl | rfl
    all_goals first | exact absurd rfl hne | rfl
  · have h1 : ({ z with o := (rText 255 (some s)).1 }, ok, (rText 255 (some s)).2) = (z', ok', some t) := h
    obtain ⟨q, hq⟩ : ∃ q, rText 255 (some s) = q := ⟨_, rfl⟩
    rw [hq] at h1
    obtain ⟨y, st⟩ := q
    cases h1
    have e3 := rText_onto hq
    have e1 : y.length ≤ 255 := Int.ofNat_le.1 (rText_most hq (by omega))
    refine ⟨hk, e3, e1, ?_⟩
    intro d hd hne
    rcases hd with rfl | rfl | rfl | rfl | rfl | rfl | rfl | rfl | rfl | rfl | rfl | rfl
    all_goals first | exact absurd rfl hne | rfl
  · have h1 : ({ z with x := (rText 2048 (some s)).1 }, ok, (rText 2048 (some s)).2) = (z', ok', some t) := h
    obtain ⟨q, hq⟩ : ∃ q, rText 2048 (some s) = q := ⟨_, rfl⟩
    rw [hq] at h1
    obtain ⟨y, st⟩ := q
    cases h1
    have e3 := rText_onto hq
    have e1 : y.length ≤ 2048 := Int.ofNat_le.1 (rText_most hq (by omega))
    refine ⟨hk, e3, e1, ?_⟩
    intro d hd hne
    rcases hd with rfl | rfl | rfl | rfl | rfl | rfl | rfl | rfl | rfl | rfl | rfl | rfl
    all_goals first | exact absurd rfl hne | rfl
  · have h1 : ({ z with v := (rLong (some s)).1 }, ok, (rLong (some s)).2) = (z', ok', some t) := h
    obtain ⟨q, hq⟩ : ∃ q, rLong (some s) = q := ⟨_, rfl⟩
    rw [hq] at h1
    obtain ⟨y, st⟩ := q
    cases h1
    obtain ⟨e1, e2, e3⟩ := rLong_onto hq
    refine ⟨hk, e3, ⟨e1, e2⟩, ?_⟩
    intro d hd hne
    rcases hd with rfl | rfl | rfl | rfl | rfl | rfl | rfl | rfl | rfl | rfl | rfl | rfl
    all_goals first | exact absurd rfl hne | rfl
  · have h1 : ({ z with a := (rInt (some s)).1 }, ok, (rInt (some s)).2) = (z', ok', some t) := h
    obtain ⟨q, hq⟩ : ∃ q, rInt (some s) = q := ⟨_, rfl⟩
    rw [hq] at h1
    obtain ⟨y, st⟩ := q
    cases h1
    have e3 := rInt_onto hq
    have e1 : -9223372036854775808 ≤ y ∧ y ≤ 9223372036854775807 := by
      have := congrArg Prod.fst hq
      have e4 : asInt (rLong (some s)).1 = y := this
      rw [← e4]
      exact asInt_range _
    refine ⟨hk, e3, e1, ?_⟩
    intro d hd hne
    rcases hd with rfl | rfl | rfl | rfl | rfl | rfl | rfl | rfl | rfl | rfl | rfl | rfl
    all_goals first | exact absurd rfl hne | rfl
  · have h1 : ({ z with c := (rInt (some s)).1 }, ok, (rInt (some s)).2) = (z', ok', some t) := h
    obtain ⟨q, hq⟩ : ∃ q, rInt (some s) = q := ⟨_, rfl⟩
    rw [hq] at h1
    obtain ⟨y, st⟩ := q
    cases h1
    have e3 := rInt_onto hq
    have e1 : -9223372036854775808 ≤ y ∧ y ≤ 9223372036854775807 := by
      have := congrArg Prod.fst hq
      have e4 : asInt (rLong (some s)).1 = y := this
      rw [← e4]
      exact asInt_range _
    refine ⟨hk, e3, e1, ?_⟩
    intro d hd hne
    rcases hd with rfl | rfl | rfl | rfl | rfl | rfl | rfl | rfl | rfl | rfl | rfl | rfl
    all_goals first | exact absurd rfl hne | rfl
  · have h1 : ({ z with m := (rInt (some s)).1 }, ok, (rInt (some s)).2) = (z', ok', some t) := h
    obtain ⟨q, hq⟩ : ∃ q, rInt (some s) = q := ⟨_, rfl⟩
    rw [hq] at h1
    obtain ⟨y, st⟩ := q
    cases h1
    have e3 := rInt_onto hq
    have e1 : -9223372036854775808 ≤ y ∧ y ≤ 9223372036854775807 := by
      have := congrArg Prod.fst hq
      have e4 : asInt (rLong (some s)).1 = y := this
      rw [← e4]
      exact asInt_range _
    refine ⟨hk, e3, e1, ?_⟩
    intro d hd hne
    rcases hd with rfl | rfl | rfl | rfl | rfl | rfl | rfl | rfl | rfl | rfl | rfl | rfl
    all_goals first | exact absurd rfl hne | rfl
  · have h1 : ({ z with s := (rInt (some s)).1 }, ok, (rInt (some s)).2) = (z', ok', some t) := h
    obtain ⟨q, hq⟩ : ∃ q, rInt (some s) = q := ⟨_, rfl⟩
    rw [hq] at h1
    obtain ⟨y, st⟩ := q
    cases h1
    have e3 := rInt_onto hq
    have e1 : -9223372036854775808 ≤ y ∧ y ≤ 9223372036854775807 := by
      have := congrArg Prod.fst hq
      have e4 : asInt (rLong (some s)).1 = y := this
      rw [← e4]
      exact asInt_range _
    refine ⟨hk, e3, e1, ?_⟩
    intro d hd hne
    rcases hd with rfl | rfl | rfl | rfl | rfl | rfl | rfl | rfl | rfl | rfl | rfl | rfl
    all_goals first | exact absurd rfl hne | rfl
  · have h1 : ({ z with b := (rInt (some s)).1 }, ok, (rInt (some s)).2) = (z', ok', some t) := h
    obtain ⟨q, hq⟩ : ∃ q, rInt (some s) = q := ⟨_, rfl⟩
    rw [hq] at h1
    obtain ⟨y, st⟩ := q
    cases h1
    have e3 := rInt_onto hq
    have e1 : -9223372036854775808 ≤ y ∧ y ≤ 9223372036854775807 := by
      have := congrArg Prod.fst hq
      have e4 : asInt (rLong (some s)).1 = y := this
      rw [← e4]
      exact asInt_range _
    refine ⟨hk, e3, e1, ?_⟩
    intro d hd hne
    rcases hd with rfl | rfl | rfl | rfl | rfl | rfl | rfl | rfl | rfl | rfl | rfl | rfl
    all_goals first | exact absurd rfl hne | rfl
  · have h1 : ({ z with g := (rInt (some s)).1 }, ok, (rInt (some s)).2) = (z', ok', some t) := h
    obtain ⟨q, hq⟩ : ∃ q, rInt (some s) = q := ⟨_, rfl⟩
    rw [hq] at h1
    obtain ⟨y, st⟩ := q
    cases h1
    have e3 := rInt_onto hq
    have e1 : -9223372036854775808 ≤ y ∧ y ≤ 9223372036854775807 := by
      have := congrArg Prod.fst hq
      have e4 : asInt (rLong (some s)).1 = y := this
      rw [← e4]
      exact asInt_range _
    refine ⟨hk, e3, e1, ?_⟩
    intro d hd hne
    rcases hd with rfl | rfl | rfl | rfl | rfl | rfl | rfl | rfl | rfl | rfl | rfl | rfl
    all_goals first | exact absurd rfl hne | rfl

theorem RDs_onto : ∀ (l : List UInt8), (∀ c ∈ l, isL c) → l.Nodup → ∀ (z : PA) (ok : Bool) (s t : List UInt8) (p : PA), l.foldl RD (z, ok, some s) = (p, true, some t) →
    ok = true ∧ s = l.flatMap (aF p) ++ t ∧ (∀ c ∈ l, okF c p) ∧ ∀ d, isL d → d ∉ l → eqF d z p
  | [], _, _, z, ok, s, t, p, h => by
    cases h
    exact ⟨rfl, rfl, (fun c hc => absurd hc (by simp)), fun d hd _ => by rcases hd with rfl | rfl | rfl | rfl | rfl | rfl | rfl | rfl | rfl | rfl | rfl | rfl <;> rfl⟩
  | c :: l, hl, hn, z, ok, s, t, p, h => by
    rw [List.foldl_cons] at h
    have hcl : c ∉ l := (List.nodup_cons.1 hn).1
    obtain ⟨y, hy⟩ : ∃ y, RD (z, ok, some s) c = y := ⟨_, rfl⟩
    rw [hy] at h
    obtain ⟨z1, ok1, st⟩ := y
    cases st with
    | none =>
      have := RDs_none l (fun d hd => hl d (by simp [hd])) (z1, ok1, none) rfl
      rw [h] at this
      cases this
    | some s1 =>
      obtain ⟨k1, k2, k3, k4⟩ := RDs_onto l (fun d hd => hl d (by simp [hd])) (List.nodup_cons.1 hn).2 z1 ok1 s1 t p h
      obtain ⟨j1, j2, j3, j4⟩ := RD_onto (hl c (by simp)) hy k1
      have ec := k4 c (hl c (by simp)) hcl
      refine ⟨j1, ?_, ?_, ?_⟩
      · rw [List.flatMap_cons, List.append_assoc, ← k2, ← eqF.words (hl c (by simp)) ec]
        exact j2
      · intro d hd
        rcases List.mem_cons.1 hd with rfl | hd
        · exact eqF.ok (hl d (by simp)) ec j3
        · exact k3 d hd
      · intro d hd hdl
        exact eqF.trans hd (j4 d hd (fun e => hdl (by simp [e]))) (k4 d hd (fun e => hdl (by simp [e])))

theorem may_of {l : List UInt8} {p : PA} (h1 : ∀ c ∈ l, okF c p) (h2 : ∀ c, isL c → c ∉ l → eqF c noPA p) : aMay l p = true := by
  have b : ∀ (c : UInt8) (P : Prop) [Decidable P], (c ∉ l → ¬ P) → (!decide (c ∈ l) && decide P) = false := fun c P _ h => by
    by_cases hc : c ∈ l
    · simp [hc]
    · simp [hc, h hc]
  have e : ∀ (c : UInt8), isL c → c ∉ l → eqF c noPA p := h2
  have l72 := e 72; have l84 := e 84; have l110 := e 110; have l111 := e 111; have l116 := e 116; have l118 := e 118
  have l97 := e 97; have l78 := e 78; have l109 := e 109; have l115 := e 115; have l83 := e 83; have l103 := e 103
  have m72 := h1 72; have m84 := h1 84; have m110 := h1 110; have m111 := h1 111; have m116 := h1 116
  clear e h1 h2
  simp [isL, eqF, noPA] at l72 l84 l110 l111 l116 l118 l97 l78 l109 l115 l83 l103
  simp [okF] at m72 m84 m110 m111 m116
  have n110 : p.n.length ≤ 255 := by
    by_cases hc : 110 ∈ l
    · exact m110 hc
    · rw [l110 hc]; simp
  have n111 : p.o.length ≤ 255 := by
    by_cases hc : 111 ∈ l
    · exact m111 hc
    · rw [l111 hc]; simp
  have n116 : p.x.length ≤ 2048 := by
    by_cases hc : 116 ∈ l
    · exact m116 hc
    · rw [l116 hc]; simp
  have B1 : bad1 l p = false := by
    unfold bad1
    by_cases c1 : 72 ∈ l <;> by_cases c2 : 84 ∈ l <;> simp_all
    all_goals (first | exact ⟨l72.symm, l84.symm⟩ | exact l72.symm | exact l84.symm)
  have B2 : bad2 l p = false := by
    unfold bad2
    simp only [Bool.or_eq_false_iff]
    refine ⟨⟨⟨⟨⟨?_, ?_⟩, ?_⟩, ?_⟩, ?_⟩, ?_⟩
    · by_cases c : 110 ∈ l <;> simp [c]; exact l110 c
    · by_cases c : 111 ∈ l <;> simp [c]; exact l111 c
    · by_cases c : 116 ∈ l <;> simp [c]; exact l116 c
    · by_cases c : 97 ∈ l <;> simp [c]; exact (l97 c).symm
    · by_cases c : 78 ∈ l <;> simp [c]; exact (l78 c).symm
    · by_cases c : 109 ∈ l <;> simp [c]; exact (l109 c).symm
  have B3 : bad3 l p = false := by
    unfold bad3
    simp only [Bool.or_eq_false_iff]
    refine ⟨⟨⟨?_, ?_⟩, ?_⟩, ?_⟩
    · by_cases c : 115 ∈ l <;> simp [c]; exact (l115 c).symm
    · by_cases c : 83 ∈ l <;> simp [c]; exact (l83 c).symm
    · by_cases c : 103 ∈ l <;> simp [c]; exact (l103 c).symm
    · by_cases c : 118 ∈ l <;> simp [c]; exact (l118 c).symm
  unfold aMay
  rw [B1, B2, B3]
  simp [n110, n111, n116]

theorem rDone_yes {s : St} (h : rDone s = true) : s = some [] := by
  cases s with
  | none => cases h
  | some l => cases l with
    | nil => rfl
    | cons x l => cases h

/-- What is read is written by just these bytes. -/
theorem args_onto {k : Nat} {s : List UInt8} {p : PA} (h : aJudge (aRds (asks k) s) = (p, 0)) : aMay (asks k) p = true ∧ aWords (asks k) p = s := by
  obtain ⟨y, hy⟩ : ∃ y, aRds (asks k) s = y := ⟨_, rfl⟩
  rw [hy] at h
  unfold aJudge at h
  split at h
  · rename_i hc
    obtain ⟨q, ok, st⟩ := y
    simp only [Bool.and_eq_true] at hc
    obtain ⟨rfl, hd⟩ := hc
    obtain rfl := rDone_yes hd
    obtain rfl : q = p := congrArg Prod.fst h
    obtain ⟨_, h2, h3, h4⟩ := RDs_onto (asks k) (asks_isL k) (asks_nodup k) noPA true s [] q hy
    rw [List.append_nil] at h2
    exact ⟨may_of h3 h4, h2.symm⟩
  · cases congrArg Prod.snd h

theorem aWords_nil (p : PA) : aWords [] p = [] := rfl
theorem aF_whole (p : PA) {c : UInt8} (hc : isL c) (hH : c = 72 → hMay p.h) (hT : c = 84 → hMay p.t) : (aF p c).length % 4 = 0 := by
  have w8 : ∀ n, (longB n).length % 4 = 0 := fun n => by rw [longB_len]
  have w24 : ∀ h : Hn, (hB fnv h).length % 4 = 0 := fun h => by rw [hB_len]
  rcases hc with rfl | rfl | rfl | rfl | rfl | rfl | rfl | rfl | rfl | rfl | rfl | rfl
  · show ((hEnc fnv p.h).1).length % 4 = 0
    rw [hEnc_of (hH rfl)]; exact w24 _
  · show ((hEnc fnv p.t).1).length % 4 = 0
    rw [hEnc_of (hT rfl)]; exact w24 _
  · show (textB p.n).length % 4 = 0
    rw [textB_len]; have := pad_mod p.n.length; omega
  · show (textB p.o).length % 4 = 0
    rw [textB_len]; have := pad_mod p.o.length; omega
  · show (textB p.x).length % 4 = 0
    rw [textB_len]; have := pad_mod p.x.length; omega
  all_goals exact w8 _
theorem aWords_whole {p : PA} : ∀ (l : List UInt8), (∀ c ∈ l, isL c ∧ (c = 72 → hMay p.h) ∧ (c = 84 → hMay p.t)) → (aWords l p).length % 4 = 0
  | [], _ => rfl
  | c :: l, h => by
    have h1 := aWords_whole l (fun d hd => h d (by simp [hd]))
    obtain ⟨k1, k2, k3⟩ := h c (by simp)
    have h2 := aF_whole p k1 k2 k3
    unfold aWords at *
    rw [List.flatMap_cons, List.length_append]
    omega
theorem args_whole {k : Nat} {p : PA} (h : aMay (asks k) p = true) (ok : PAok p) : (aWords (asks k) p).length % 4 = 0 := by
  obtain ⟨f1, _⟩ := may_facts h
  refine aWords_whole (asks k) (fun c hc => ⟨asks_isL k c hc, fun e => ?_, fun e => ?_⟩)
  · subst e; exact f1 72 (asks_isL k 72 hc) hc ok
  · subst e; exact f1 84 (asks_isL k 84 hc) hc ok

/-- Arguments have room in a call. -/
theorem args_short {k : Nat} (hk : k < 19) {p : PA} (h : aMay (asks k) p = true) : (aWords (asks k) p).length ≤ 4072 := by
  have d : p.n.length ≤ 255 ∧ p.o.length ≤ 255 ∧ p.x.length ≤ 2048 := by simp [aMay] at h; omega
  have e1 := hEnc_len p.h
  have e2 := hEnc_len p.t
  have e3 := textB_len p.n
  have e4 := textB_len p.o
  have e5 := textB_len p.x
  have p1 := pad_le p.n.length
  have p2 := pad_le p.o.length
  have p3 := pad_le p.x.length
  have w72 : aF p 72 = (hEnc fnv p.h).1 := rfl
  have w84 : aF p 84 = (hEnc fnv p.t).1 := rfl
  have w110 : aF p 110 = textB p.n := rfl
  have w111 : aF p 111 = textB p.o := rfl
  have w116 : aF p 116 = textB p.x := rfl
  have l118 : (aF p 118).length = 8 := longB_len _
  have l97 : (aF p 97).length = 8 := longB_len _
  have l78 : (aF p 78).length = 8 := longB_len _
  have l109 : (aF p 109).length = 8 := longB_len _
  have l115 : (aF p 115).length = 8 := longB_len _
  have l83 : (aF p 83).length = 8 := longB_len _
  have l103 : (aF p 103).length = 8 := longB_len _
  clear h
  rcases (show k = 0 ∨ k = 1 ∨ k = 2 ∨ k = 3 ∨ k = 4 ∨ k = 5 ∨ k = 6 ∨ k = 7 ∨ k = 8 ∨ k = 9 ∨ k = 10 ∨ k = 11 ∨ k = 12 ∨ k = 13 ∨ k = 14 ∨ k = 15 ∨ k = 16 ∨ k = 17 ∨ k = 18 by omega) with rfl | rfl | rfl | rfl | rfl | rfl | rfl | rfl | rfl | rfl | rfl | rfl | rfl | rfl | rfl | rfl | rfl | rfl | rfl
  all_goals
    simp only [asks, aWords, List.flatMap_cons, List.flatMap_nil, List.length_append, List.length_nil, w72, w84, w110, w111, w116]
    omega
end Go.Proofs.Ytpklgcinijlmmaa
