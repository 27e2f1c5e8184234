/- ArgsBack: for every input the call returns true, and every argument reads as it did. No condition: the statement itself. -/
import Derived.Test.YtpklgcinijlmmaaArgsBackB
import Derived.Test.YtpklgcinijlmmaaArgsBackC
import Derived.Test.YtpklgcinijlmmaaArgsBackD
import Derived.Test.YtpklgcinijlmmaaArgQ
import Derived.Test.YtpklgcinijlmmaaArgD
import Derived.Test.YtpklgcinijlmmaaArgE
import Derived.Test.YtpklgcinijlmmaaLaw
namespace Go.Proofs.Ytpklgcinijlmmaa
open Go.RowKit

theorem same_any (p q : PR) (ev fv : Value) (w : World) (h1 : Ents w ev p.es) (h2 : Ents w fv q.es) : Calls Try.prog 36 #[.agg (prC p ev), .agg (prC q fv)] w fun e w' => e = .returned (.bool (decide (p = q))) ∧ w.grownBy w' none := by
  obtain ⟨e1, hh1, aa1, x1, n1, f1, u1, d1, es1, v1⟩ := p
  obtain ⟨e2, hh2, aa2, x2, n2, f2, u2, d2, es2, v2⟩ := q
  dsimp only at h1 h2
  have F : ∀ {P : Prop} [Decidable P], ¬ P → decide P = false := fun h => decide_eq_false h
  by_cases q0 : e1 = e2
  rotate_left
  · rw [F (show ¬ _ from fun h => q0 (by injection h))]
    exact same_e e1 hh1 aa1 x1 n1 f1 u1 d1 es1 v1 e2 hh2 aa2 x2 n2 f2 u2 d2 es2 v2 ev fv w h1 h2 q0
  subst q0
  by_cases q1 : hh1 = hh2
  rotate_left
  · rw [F (show ¬ _ from fun h => q1 (by injection h))]
    by_cases r0 : hh1.s = hh2.s
    rotate_left
    · exact same_hh_s e1 hh1 aa1 x1 n1 f1 u1 d1 es1 v1 hh2 aa2 x2 n2 f2 u2 d2 es2 v2 ev fv w h1 h2  r0
    by_cases r1 : hh1.i = hh2.i
    rotate_left
    · exact same_hh_i e1 hh1 aa1 x1 n1 f1 u1 d1 es1 v1 hh2 aa2 x2 n2 f2 u2 d2 es2 v2 ev fv w h1 h2 r0 r1
    by_cases r2 : hh1.g = hh2.g
    rotate_left
    · exact same_hh_g e1 hh1 aa1 x1 n1 f1 u1 d1 es1 v1 hh2 aa2 x2 n2 f2 u2 d2 es2 v2 ev fv w h1 h2 r0 r1 r2
    exact absurd (by cases hh1; cases hh2; simp_all) q1
  subst q1
  by_cases q2 : aa1 = aa2
  rotate_left
  · rw [F (show ¬ _ from fun h => q2 (by injection h))]
    by_cases r0 : aa1.k = aa2.k
    rotate_left
    · exact same_aa_k e1 hh1 aa1 x1 n1 f1 u1 d1 es1 v1 aa2 x2 n2 f2 u2 d2 es2 v2 ev fv w h1 h2  r0
    by_cases r1 : aa1.m = aa2.m
    rotate_left
    · exact same_aa_m e1 hh1 aa1 x1 n1 f1 u1 d1 es1 v1 aa2 x2 n2 f2 u2 d2 es2 v2 ev fv w h1 h2 r0 r1
    by_cases r2 : aa1.l = aa2.l
    rotate_left
    · exact same_aa_l e1 hh1 aa1 x1 n1 f1 u1 d1 es1 v1 aa2 x2 n2 f2 u2 d2 es2 v2 ev fv w h1 h2 r0 r1 r2
    by_cases r3 : aa1.s = aa2.s
    rotate_left
    · exact same_aa_s e1 hh1 aa1 x1 n1 f1 u1 d1 es1 v1 aa2 x2 n2 f2 u2 d2 es2 v2 ev fv w h1 h2 r0 r1 r2 r3
    by_cases r4 : aa1.mt = aa2.mt
    rotate_left
    · exact same_aa_mt e1 hh1 aa1 x1 n1 f1 u1 d1 es1 v1 aa2 x2 n2 f2 u2 d2 es2 v2 ev fv w h1 h2 r0 r1 r2 r3 r4
    by_cases r5 : aa1.ct = aa2.ct
    rotate_left
    · exact same_aa_ct e1 hh1 aa1 x1 n1 f1 u1 d1 es1 v1 aa2 x2 n2 f2 u2 d2 es2 v2 ev fv w h1 h2 r0 r1 r2 r3 r4 r5
    by_cases r6 : aa1.i = aa2.i
    rotate_left
    · exact same_aa_i e1 hh1 aa1 x1 n1 f1 u1 d1 es1 v1 aa2 x2 n2 f2 u2 d2 es2 v2 ev fv w h1 h2 r0 r1 r2 r3 r4 r5 r6
    by_cases r7 : aa1.g = aa2.g
    rotate_left
    · exact same_aa_g e1 hh1 aa1 x1 n1 f1 u1 d1 es1 v1 aa2 x2 n2 f2 u2 d2 es2 v2 ev fv w h1 h2 r0 r1 r2 r3 r4 r5 r6 r7
    exact absurd (by cases aa1; cases aa2; simp_all) q2
  subst q2
  by_cases q3 : x1 = x2
  rotate_left
  · rw [F (show ¬ _ from fun h => q3 (by injection h))]
    exact same_x e1 hh1 aa1 x1 n1 f1 u1 d1 es1 v1 x2 n2 f2 u2 d2 es2 v2 ev fv w h1 h2 q3
  subst q3
  by_cases q4 : n1 = n2
  rotate_left
  · rw [F (show ¬ _ from fun h => q4 (by injection h))]
    exact same_n e1 hh1 aa1 x1 n1 f1 u1 d1 es1 v1 n2 f2 u2 d2 es2 v2 ev fv w h1 h2 q4
  subst q4
  by_cases q5 : f1 = f2
  rotate_left
  · rw [F (show ¬ _ from fun h => q5 (by injection h))]
    exact same_f e1 hh1 aa1 x1 n1 f1 u1 d1 es1 v1 f2 u2 d2 es2 v2 ev fv w h1 h2 q5
  subst q5
  by_cases q6 : u1 = u2
  rotate_left
  · rw [F (show ¬ _ from fun h => q6 (by injection h))]
    exact same_u e1 hh1 aa1 x1 n1 f1 u1 d1 es1 v1 u2 d2 es2 v2 ev fv w h1 h2 q6
  subst q6
  by_cases q7 : d1 = d2
  rotate_left
  · rw [F (show ¬ _ from fun h => q7 (by injection h))]
    exact same_d e1 hh1 aa1 x1 n1 f1 u1 d1 es1 v1 d2 es2 v2 ev fv w h1 h2 q7
  subst q7
  by_cases q8 : es1 = es2
  rotate_left
  · rw [F (show ¬ _ from fun h => q8 (by injection h))]
    exact same_es e1 hh1 aa1 x1 n1 f1 u1 d1 es1 v1 es2 v2 ev fv w h1 h2 q8
  subst q8
  by_cases q9 : v1 = v2
  rotate_left
  · rw [F (show ¬ _ from fun h => q9 (by injection h))]
    exact same_v e1 hh1 aa1 x1 n1 f1 u1 d1 es1 v1 v2 ev fv w h1 h2 q9
  subst q9
  rw [decide_eq_true (show (_ : PR) = _ from rfl)]
  exact same_all e1 hh1 aa1 x1 n1 f1 u1 d1 es1 v1 ev fv w h1 h2
end Go.Proofs.Ytpklgcinijlmmaa
namespace Go.Proofs.Ytpklgcinijlmmaa
open Go.RowKit

/-- What Tell makes of what it heard of its own words. -/
def cTell1 (p : PR) (tx : List UInt8) (b : PR × Int) : List UInt8 × Int := if b.2 ≠ 0 then ([], b.2) else if b.1 ≠ p then ([], 4) else (tx, 0)
def cTell (k : Int) (p : PR) : List UInt8 × Int := cTell1 p (rWs (qOf k p.e) p) (cHear k (rWs (qOf k p.e) p))

theorem Ents.far {S : Nat → Prop} {w w' : World} {v : Value} {es : List En} (h : Ents w v es) (hk : KeepB S w w') (hS : ∀ k, S k → w.heap.size ≤ k) : Ents w' v es := by
  rcases h with h | ⟨b, o, c, h1, h2, h3, h4⟩ | h
  · exact .inl h
  · exact .inr (.inl ⟨b, o, c, h1, h2, h3, fun i hi => hk.cell (h4 i hi) (fun s => by
      have h5 := World.block_lt_of_cell? _ _ (h4 i hi)
      have h6 := hS _ s
      simp at h5
      simp at h6
      omega)⟩)
  · exact .inr (.inr h)

set_option maxRecDepth 20000 in
set_option maxHeartbeats 8000000 in
theorem Tell_any (k : Int) (p : PR) (ev : Value) (w : World) (hp : RB p) (hev : Ents w ev p.es) (hl : (rWs (qOf k p.e) p).length ≤ 100000000) : Calls Try.prog 12 #[.int .i64 k, .agg (prC p ev)] w (TE w (cTell k p)) := by
  unfold cTell
  have HTX := Lib.hid hl
  have HST := Lib.hid (fun (W : World) (R B : Nat) (hRB : R ≠ B ∧ R < W.heap.size ∧ B < W.heap.size ∧ w.heap.size ≤ B ∧ w.heap.size ≤ W.heap.size) (L : Nat) (q : List UInt8) (c : UInt8) (w2 : World) (hc : isR c ∨ c = 0) (hq : q.length < 100) (h : IT w W R B p ev L q w2) (hL : L < w2.heap.size) => step_Tell hRB hev hp hc hq h hL)
  have HAS := Lib.hid (fun (R B : Nat) (W : World) => tells_Tell k R B p.e (IT w W R B p ev) W)
  have HEQ : (if p.e = 0 then 0 :: rowAt tellsT k else [0]) = qOf k p.e := rfl
  rw [HEQ] at HAS
  have HIT : Hid (∀ W R B L w2, IT w W R B p ev L (qOf k p.e) w2 → Blk w2 R 42 (prC p ev) ∧ w.grownBy w2 none ∧ ∃ v, Blk w2 B 55 #[v] ∧ Own w2 W.heap.size v (rWs (qOf k p.e) p)) := Lib.hid (fun W R B L w2 h => ⟨h.1, h.2.1, _, h.2.2.2.2.choose_spec.1, h.2.2.2.2.choose_spec.2.1⟩)
  have HE0 := Lib.hid (fun (W : World) (R B L : Nat) (w2 : World) (h : IT w W R B p ev L [0] w2) => h.1.cell (i := 0) (x := .int .i64 p.e) rfl)
  generalize rWs (qOf k p.e) p = tx at *
  generalize qOf k p.e = ql at *
  have HRD := Lib.hid (fun w => Hear_any k tx w HTX.out)
  generalize cHear k tx = y at *
  obtain ⟨b, e⟩ := y
  obtain ⟨Z, hZ⟩ : ∃ Z, cTell1 p tx (b, e) = Z := ⟨_, rfl⟩
  rw [hZ]
  have HZ := Lib.hid hZ
  clear hZ HEQ hl
  have HSM := Lib.hid (fun (w' : World) (g : w.grownBy w' none) (fv : Value) (hf : Ents w' fv b.es) => same_any b p fv ev w' hf (hev.new g))
  obtain ⟨D, hD⟩ : ∃ D, decide (b = p) = D := ⟨_, rfl⟩
  have HD := Lib.hid hD
  rw [hD] at HSM
  clear hD
  have HNIL := Lib.hid (fun (W : World) (R B L : Nat) (h : Blk W R 42 (prC p ev)) (hg : w.grownBy W none) (h2 : Blk W B 55 #[.slice none 0 0]) (hL : W.heap.size ≤ L) => (⟨h, hg, Nat.le_refl _, hL, _, h2, Own.nil _ _, by simp [Value.ownBlock]⟩ : IT w W R B p ev L [] W))
  obtain ⟨ea, ec, rfl, _⟩ := hev.form
  clear hev hp
  unfold RT at HRD
  dsimp only at HRD
  go_enter Try.func12, Try.ntmps12
  go_upto_region 1 with fail
  have hR := Blk.made w 42 (prC p (.slice ea p.es.length ec))
  have ga := World.grownBy_alloc w (.cells (prC p (.slice ea p.es.length ec)) 42) none
  generalize w.alloc (.cells (prC p (.slice ea p.es.length ec)) 42) = w1 at *
  obtain ⟨R, hRR⟩ : ∃ R, R = w.heap.size := ⟨_, rfl⟩
  rw [← hRR] at hR ⊢
  go_upto_region 2 with fail
  have hB := Blk.made w1 55 #[.slice none 0 0]
  have gb := World.grownBy_alloc w1 (.cells #[.slice none 0 0] 55) none
  have HRB : Hid (R < w1.heap.size ∧ w.heap.size ≤ R) := Lib.hid ⟨hR.lt, by omega⟩
  generalize w1.alloc (.cells #[.slice none 0 0] 55) = w2 at *
  obtain ⟨B, hBB⟩ : ∃ B, w1.heap.size = B := ⟨_, rfl⟩
  rw [hBB] at hB HRB ⊢
  have hR2 := hR.new gb
  have hG := World.grownBy.trans ga gb
  have HD2 : Hid (R ≠ B ∧ R < w2.heap.size ∧ B < w2.heap.size ∧ w.heap.size ≤ B ∧ w.heap.size ≤ w2.heap.size) := Lib.hid ⟨by have := HRB.out; omega, hR2.lt, hB.lt, by have := HRB.out; omega, hG.size⟩
  have HAS2 := Lib.hid (HAS.out R B w2 (fun L hL => HNIL.out w2 R B L hR2 hG hB hL) (fun L p w w' h hg => h.new hg) (fun L q c w hc hq h hl => HST.out w2 R B HD2.out L q c w hc hq h hl) (fun L w3 h => HE0.out w2 R B L w3 h))
  clear hR ga hRR hB gb hBB hR2 hG HAS HNIL HST HE0
  go_wp2_with fail
  refine HAS2.out.mono ?_; rintro e1 w3 ⟨rfl, L, hI⟩
  obtain ⟨i1, i2, v, i3, i4⟩ := HIT.out w2 R B L w3 hI
  have hstr := i4.bts.str und22 und5 und9
  have HR3 := Lib.hid i1
  have HG3 := Lib.hid i2
  have HB3 := Lib.hid i3
  obtain ⟨a1, n1, c1, rfl⟩ := i4.bts.shape
  have HO3 := Lib.hid i4
  have c0 := i3.cell (i := 0) (x := .slice a1 n1 c1) rfl
  clear i1 i2 i3 i4 hI HAS2 HIT
  go_wp2_with fail
  refine (HRD.out w3).mono ?_; rintro e1 w4 ⟨fv, rfl, hfe, g4, hfo⟩
  obtain ⟨fa, fc, rfl, _⟩ := hfe.form
  have ga := World.grownBy_alloc w4 (.cells #[.int .i64 0, .int .i64 0, .int .i64 0, .int .i64 0, .int .u8 0, .int .i64 0, .int .i64 0, .int .i64 0, .int .i64 0, .int .i64 0, .int .i64 0, .int .i64 0, .string ⟨#[]⟩, .int .i64 0, .int .i64 0, .int .u64 0, .bool false, .slice none 0 0, .int .u64 0] 42) none
  have g5 := setRow_grown (w4.alloc (.cells #[.int .i64 0, .int .i64 0, .int .i64 0, .int .i64 0, .int .u8 0, .int .i64 0, .int .i64 0, .int .i64 0, .int .i64 0, .int .i64 0, .int .i64 0, .int .i64 0, .string ⟨#[]⟩, .int .i64 0, .int .i64 0, .int .u64 0, .bool false, .slice none 0 0, .int .u64 0] 42)) w4.heap.size (prC b (.slice fa b.es.length fc))
  have hC := (Blk.made w4 42 #[.int .i64 0, .int .i64 0, .int .i64 0, .int .i64 0, .int .u8 0, .int .i64 0, .int .i64 0, .int .i64 0, .int .i64 0, .int .i64 0, .int .i64 0, .int .i64 0, .string ⟨#[]⟩, .int .i64 0, .int .i64 0, .int .u64 0, .bool false, .slice none 0 0, .int .u64 0]).row (prC b (.slice fa b.es.length fc))
  have lR := (HR3.out.new g4).lt
  have lB := (HB3.out.new g4).lt
  have hF5 := hfe.far (KeepB.trans (KeepB.new (S := fun k => k = w4.heap.size) ga) (KeepB.of g5 (fun k e => by cases e; rfl))) (fun k e => by omega)
  have hR5 := ((HR3.out.new g4).new ga).kept g5 (by simp; omega)
  have hB5 := ((HB3.out.new g4).new ga).kept g5 (by simp; omega)
  have hO5 := ((HO3.out.new g4).new ga).kept g5 (.inr (fun e => by have := ((HO3.out.new g4).lt) _ e; omega))
  have hG5 := grown_own (World.grownBy.trans (World.grownBy.trans HG3.out g4) ga) g5 (fun n hn => by cases hn; have := HG3.out.size; have := g4.size; omega)
  have HC := Lib.hid hC
  have HR := Lib.hid hR5
  have HB := Lib.hid hB5
  have HO := Lib.hid hO5
  have HG := Lib.hid hG5
  have HF := Lib.hid hF5
  clear hC hR5 hB5 hO5 hG5 hF5 lR lB g4 ga g5 HB3 HO3 HG3 HR3 c0 hstr hfe hfo
  go_upto_region 4 with (refine wpList_store_row rfl 42 (.tmp 7) (.tmp 17) rfl w4.heap.size (prC b (.slice fa b.es.length fc)) rfl rfl 42 #[.int .i64 0, .int .i64 0, .int .i64 0, .int .i64 0, .int .u8 0, .int .i64 0, .int .i64 0, .int .i64 0, .int .i64 0, .int .i64 0, .int .i64 0, .int .i64 0, .string ⟨#[]⟩, .int .i64 0, .int .i64 0, .int .u64 0, .bool false, .slice none 0 0, .int .u64 0] (Blk.made w4 42 #[.int .i64 0, .int .i64 0, .int .i64 0, .int .i64 0, .int .u8 0, .int .i64 0, .int .i64 0, .int .i64 0, .int .i64 0, .int .i64 0, .int .i64 0, .int .i64 0, .string ⟨#[]⟩, .int .i64 0, .int .i64 0, .int .u64 0, .bool false, .slice none 0 0, .int .u64 0]) (by kernel_rfl) (by kernel_rfl) (by kernel_rfl) ?_)
  generalize (w4.alloc (.cells #[.int .i64 0, .int .i64 0, .int .i64 0, .int .i64 0, .int .u8 0, .int .i64 0, .int .i64 0, .int .i64 0, .int .i64 0, .int .i64 0, .int .i64 0, .int .i64 0, .string ⟨#[]⟩, .int .i64 0, .int .i64 0, .int .u64 0, .bool false, .slice none 0 0, .int .u64 0] 42)).setRow w4.heap.size (prC b (.slice fa b.es.length fc)) = wE at *
  generalize w4.heap.size = C at *
  have HS := Lib.hid (HSM.out wE HG.out _ HF.out)
  clear HSM
  by_cases he : e = 0
  · subst he
    cases D
    · have hbp : b ≠ p := by simpa using HD.out
      have HZ2 : Hid (Z = ([], 4)) := Lib.hid (by rw [← HZ.out]; unfold cTell1; simp [hbp])
      clear hbp HZ
      go_wp2_with (first
        | (refine wpList_load_row rfl 42 (.tmp 7) rfl C rfl 42 (prC b (.slice fa b.es.length fc)) (0, 0) _ HC.out Try.underlying42 rfl (by kernel_rfl) ?_; (try go_simp))
        | (refine wpList_load_row rfl 42 (.tmp 3) rfl R rfl 42 (prC p (.slice ea p.es.length ec)) (0, 0) _ HR.out Try.underlying42 rfl (by kernel_rfl) ?_; (try go_simp)))
      refine HS.out.mono ?_; rintro e2 w6 ⟨rfl, g6⟩
      have HG6 := Lib.hid (World.grownBy.trans HG.out g6)
      clear g6 HS
      go_wp2_with fail
      go_ret2
      exact ⟨by rw [HZ2.out]; rfl, HG6.out⟩
    · have hbp : b = p := by simpa using HD.out
      have HZ2 : Hid (Z = (tx, 0)) := Lib.hid (by rw [← HZ.out, hbp]; unfold cTell1; simp)
      clear hbp HZ
      go_wp2_with (first
        | (refine wpList_load_row rfl 42 (.tmp 7) rfl C rfl 42 (prC b (.slice fa b.es.length fc)) (0, 0) _ HC.out Try.underlying42 rfl (by kernel_rfl) ?_; (try go_simp))
        | (refine wpList_load_row rfl 42 (.tmp 3) rfl R rfl 42 (prC p (.slice ea p.es.length ec)) (0, 0) _ HR.out Try.underlying42 rfl (by kernel_rfl) ?_; (try go_simp)))
      refine HS.out.mono ?_; rintro e2 w6 ⟨rfl, g6⟩
      have HG6 := Lib.hid (World.grownBy.trans HG.out g6)
      have hs := (HO.out.new g6).bts.str und22 und5 und9
      have c0 := (HB.out.new g6).cell (i := 0) (x := .slice a1 n1 c1) rfl
      clear g6 HS
      go_wp2_with fail
      go_ret2
      exact ⟨by rw [HZ2.out]; rfl, HG6.out⟩
  · have HZ2 : Hid (Z = ([], e)) := Lib.hid (by rw [← HZ.out]; unfold cTell1; simp [he])
    have h1 : (e != 0) = true := by simpa using he
    have h2 : (e == 0) = false := by simpa using he
    clear HZ HD HS
    go_wp2_with fail
    go_ret2
    exact ⟨by rw [HZ2.out]; rfl, HG.out⟩
end Go.Proofs.Ytpklgcinijlmmaa
namespace Go.Proofs.Ytpklgcinijlmmaa
open Go.RowKit

theorem write_facts {k : Int} {p : PA} {tx : List UInt8} (h : aWrite k p = (tx, 0)) (ok : PAok p) : aRead k tx = (p, 0) ∧ tx.length % 4 = 0 ∧ tx.length ≤ 4072 := by
  unfold aWrite at h
  split at h
  · rename_i hk
    split at h
    · rename_i hm
      simp only [Prod.mk.injEq, and_true] at h
      subst h
      have hk2 : k.toNat < 19 := by omega
      refine ⟨?_, args_whole hm ok, args_short hk2 hm⟩
      unfold aRead
      rw [if_pos hk]
      exact args_back hk2 hm ok
    · simp at h
  · simp at h
theorem read_facts {k : Int} {p : PA} {s : List UInt8} (h : aRead k s = (p, 0)) : aWrite k p = (s, 0) := by
  unfold aRead at h
  split at h
  · rename_i hk
    obtain ⟨h1, h2⟩ := args_onto h
    unfold aWrite
    rw [if_pos hk, if_pos h1, h2]
  · simp at h
theorem tell_facts {k : Int} {p : PR} {tx : List UInt8} (h : cTell k p = (tx, 0)) : cHear k tx = (p, 0) ∧ tx.length % 4 = 0 := by
  unfold cTell at h
  have hw := rWs_whole p (qOf k p.e) (qOf_isR0 k p.e)
  generalize rWs (qOf k p.e) p = t at *
  obtain ⟨⟨b, e⟩, hb⟩ : ∃ y, cHear k t = y := ⟨_, rfl⟩
  rw [hb] at h
  unfold cTell1 at h
  dsimp only at h
  split at h
  · rename_i he
    simp only [Prod.mk.injEq] at h
    exact absurd h.2 he
  · rename_i he
    split at h
    · simp at h
    · rename_i hp
      simp only [Prod.mk.injEq, and_true] at h
      subst h
      obtain rfl : e = 0 := Decidable.not_not.1 he
      obtain rfl : b = p := Decidable.not_not.1 hp
      exact ⟨hb, hw⟩
theorem hear_facts {k : Int} {p : PR} {s : List UInt8} (h : cHear k s = (p, 0)) : cTell k p = (s, 0) ∧ RB p ∧ rWs (qOf k p.e) p = s := by
  obtain ⟨h1, h2⟩ := hear_onto h
  refine ⟨?_, h2.room, h1⟩
  unfold cTell
  rw [h1, h]
  unfold cTell1
  simp

theorem ens_room (es : List En) : (es.flatMap enB).length ≤ (es.map fun e => e.n.length).sum + 30 * es.length := by
  induction es with
  | nil => simp
  | cons e es ih =>
    rw [List.flatMap_cons, List.length_append, List.map_cons, List.sum_cons, List.length_cons]
    have h1 : (enB e).length ≤ e.n.length + 30 := by
      unfold enB
      have k1 := textB_len e.n
      have p1 := pad_le e.n.length
      rw [List.length_append, List.length_append, longB_len, longB_len]
      omega
    omega
theorem rF_room {p : PR} (hx : p.x.length ≤ 10000) (h : eSum p.es p.es.length < 100000) (c : UInt8) : (rF p c).length ≤ 10000000 := by
  obtain ⟨h1, h2, h3⟩ := eSum_all h
  have e1 := ens_room p.es
  have e2 := hEnc_len p.h
  have e3 := attrB_len p.a
  have e4 := textB_len p.x
  have e5 := pad_le p.x.length
  have e6 : ∀ n, (word4 n).length = 4 := fun _ => rfl
  have e7 := longB_len
  unfold rF ensB flagB
  repeat' split
  all_goals (first | (rw [List.length_append]; simp only [e6, e7]; omega) | (simp only [e6, e7]; omega) | omega)
theorem words_room {p : PR} (k : Int) (hx : p.x.length ≤ 10000) (h : eSum p.es p.es.length < 100000) : (rWs (qOf k p.e) p).length ≤ 100000000 := by
  have hq : (qOf k p.e).length ≤ 4 := by
    unfold qOf rowAt
    repeat' split
    all_goals (simp only [List.length_cons, List.length_nil])
    · have hb : ∀ i : Nat, i < 19 → (tellsT.getD i []).length ≤ 3 := by decide
      have hl : (tellsT.length : Int) = 19 := rfl
      rename_i hk
      have := hb k.toNat (by omega)
      omega
    · omega
    · omega
  have key : ∀ q : List UInt8, (rWs q p).length ≤ 10000000 * q.length := by
    intro q
    induction q with
    | nil => simp [rWs]
    | cons c q ih =>
      unfold rWs at *
      rw [List.flatMap_cons, List.length_append, List.length_cons]
      have := rF_room hx h c
      omega
  have := key (qOf k p.e)
  omega
theorem short_room {q : PA} {p : PR} (h : Short q p) (h1 : 0 ≤ p.a.k ∧ p.a.k < 256) (h2 : 0 ≤ p.u ∧ p.u < 18446744073709551616) (h3 : 0 ≤ p.v ∧ p.v < 18446744073709551616) : RB p := by
  obtain ⟨_, _, _, hx, he⟩ := h
  obtain ⟨k1, k2, k3⟩ := eSum_all he
  exact ⟨h1, h2, h3, by omega, k1, k2⟩
end Go.Proofs.Ytpklgcinijlmmaa
namespace Go.Proofs.Ytpklgcinijlmmaa
open Go.RowKit

/-- A guarded load of a row whose guard lets it. -/
theorem wpList_load_row_if {P : Program} {ops : Array Oper} {rest : List Oper} {o : Oper} {a : Act} {w : World} {Q : Exit → Act → World → Prop} (hw : Region.wanted o (yielded ops a.tmps) = true) (ty : TypeId) (x : Operand) (ho : o.op = .load ty x)
    (g : Nat) (hx : a.eval x = .pointer (some ⟨g, 0, none⟩)) (t : TypeId) (cs : Array Value) (fr : Nat × Nat) (d : TypeDesc) (hg : w.heap[g]? = some (.cells cs t fr))
    (hu : P.underlying ty = some d) (hd : (match d with | .struct _ | .array _ _ => true | _ => false) = true) (hi : (P.info? ty).map (·.size) = some cs.size)
    (h : wpList P ops Q rest (a.put o.dst (.agg cs)) w) : wpList P ops Q (o :: rest) a w :=
  wpList_step fun K hK => by
    rw [if_pos hw]
    exact wp_load_row ty x ho g hx t cs fr d hg hu hd hi (hK _ _ h)

set_option maxRecDepth 20000 in
set_option maxHeartbeats 8000000 in
theorem back_walk (k : Int) (p : PA) (y : PR) (ev : Value) (s : List UInt8) (w : World) (ok : PAok p) (hn : p.n.length ≤ maxLen) (ho : p.o.length ≤ maxLen) (hx : p.x.length ≤ maxLen) (hs : s.length ≤ maxLen)
    (hev : Ents w ev y.es) (hyx : y.x.length ≤ maxLen) (hnm : ∀ e ∈ y.es, e.n.length ≤ maxLen) (b1 : 0 ≤ y.a.k ∧ y.a.k < 256) (b2 : 0 ≤ y.u ∧ y.u < 18446744073709551616) (b3 : 0 ≤ y.v ∧ y.v < 18446744073709551616) :
    Calls Try.prog 6 #[.int .i64 k, paV p, .agg (prC y ev), .string ⟨s.toArray⟩] w fun e w' => e = .returned (.bool true) ∧ w.grownBy w' none := by
  have HLO := Lib.hid (fun w (he : Ents w ev y.es) => long_any p y ev w he hn ho hx hyx hnm)
  have HWK := Lib.hid (fun w => works_any w)
  have HOK := Lib.hid ok
  have HRB := Lib.hid (fun h : Short p y => short_room h b1 b2 b3)
  have HRM := Lib.hid (fun h : Short p y => words_room k h.2.2.2.1 h.2.2.2.2)
  have HSH := Lib.hid (fun h : Short p y => (⟨h.1, h.2.1, h.2.2.1⟩ : p.n.length ≤ 10000 ∧ p.o.length ≤ 10000 ∧ p.x.length ≤ 10000))
  have HEV := Lib.hid hev
  unfold maxLen at hs
  have zs : (⟨s.toArray⟩ : ByteArray).size = s.length := rfl
  have hs2 : (s.length : Int) ≤ 9223372036854775807 := by omega
  clear ok hn ho hx hs hev hyx hnm b1 b2 b3
  show Calls _ _ #[.int .i64 k, .agg (paC p), .agg (prC y ev), .string ⟨s.toArray⟩] w _
  go_enter Try.func6, Try.ntmps6
  go_upto_region 1 with fail
  obtain ⟨hA, hR, hg⟩ : Blk ((w.alloc (.cells (paC p) 27)).alloc (.cells (prC y ev) 42)) w.heap.size 27 (paC p) ∧ Blk ((w.alloc (.cells (paC p) 27)).alloc (.cells (prC y ev) 42)) (w.heap.size + 1) 42 (prC y ev) ∧ w.grownBy ((w.alloc (.cells (paC p) 27)).alloc (.cells (prC y ev) 42)) none := by
    have hsz : (w.alloc (.cells (paC p) 27)).heap.size = w.heap.size + 1 := by simp
    have h2 := Blk.made (w.alloc (.cells (paC p) 27)) 42 (prC y ev)
    rw [hsz] at h2
    exact ⟨(Blk.made w 27 (paC p)).new (World.grownBy_alloc _ _ none), h2, World.grownBy.trans (World.grownBy_alloc _ _ none) (World.grownBy_alloc _ _ none)⟩
  generalize (w.alloc (.cells (paC p) 27)).alloc (.cells (prC y ev) 42) = w1 at *
  replace HEV := Lib.hid (HEV.out.new hg)
  generalize w.heap.size + 1 = R at *
  generalize w.heap.size = A at *
  have HA := Lib.hid hA
  have HR := Lib.hid hR
  have HG := Lib.hid hg
  clear hA hR hg
  go_wp2_with fail
  refine (HWK.out _).mono ?_; rintro e w2 ⟨rfl, g⟩
  have G := Lib.hid g
  clear g
  go_wp2_with first | (refine wpList_load_row_if (by first | rfl | (simp [Region.wanted, yielded]; done)) 27 (.tmp 5) rfl A rfl 27 (paC p) (0, 0) _ (rowEq (HA.out.new G.out)) Try.underlying27 rfl (by kernel_rfl) ?_; (try go_simp)) | (refine wpList_load_row_if (by first | rfl | (simp [Region.wanted, yielded]; done)) 42 (.tmp 6) rfl R rfl 42 (prC y ev) (0, 0) _ (rowEq (HR.out.new G.out)) Try.underlying42 rfl (by kernel_rfl) ?_; (try go_simp))
  refine (HLO.out _ (HEV.out.new G.out)).mono ?_; rintro e w3 ⟨B, rfl, g, hB⟩
  replace G := Lib.hid (World.grownBy.trans G.out g)
  have HB := Lib.hid hB
  clear g hB HLO
  cases B
  rotate_left
  · go_wp2_with fail
    refine (HWK.out _).mono ?_; rintro e w4 ⟨rfl, g⟩
    go_wp2_with fail
    go_ret
    exact ⟨rfl, World.grownBy.trans HG.out (World.grownBy.trans G.out g)⟩
  have HST := Lib.hid (HB.out rfl)
  by_cases hl : 10000 < (s.length : Int)
  · go_wp2_with fail
    refine (HWK.out _).mono ?_; rintro e w4 ⟨rfl, g⟩
    go_wp2_with fail
    go_ret
    exact ⟨rfl, World.grownBy.trans HG.out (World.grownBy.trans G.out g)⟩
  have HSL : Hid (s.length ≤ 10000) := Lib.hid (by omega)
  have HW := Lib.hid (fun w => Write_any k p w HOK.out (HSH.out HST.out).1 (HSH.out HST.out).2.1 (HSH.out HST.out).2.2)
  have HT := Lib.hid (fun w (g : w1.grownBy w none) => Tell_any k y ev w (HRB.out HST.out) (HEV.out.new g) (HRM.out HST.out))
  have F1 := Lib.hid (fun tx (h : aWrite k p = (tx, 0)) => write_facts h HOK.out)
  have F2 := Lib.hid (fun tx (h : cTell k y = (tx, 0)) => tell_facts h)
  have F2L : Hid (∀ tx, cTell k y = (tx, 0) → tx.length ≤ 100000000) := Lib.hid (fun tx h => by
    unfold cTell cTell1 at h
    have := HRM.out HST.out
    generalize rWs (qOf k y.e) y = t at *
    split at h
    · rename_i hne
      simp only [Prod.mk.injEq] at h
      exact absurd h.2 hne
    · split at h
      · simp at h
      · simp only [Prod.mk.injEq, and_true] at h
        rw [← h]
        exact this)
  have F3 := Lib.hid (fun b (h : aRead k s = (b, 0)) => read_facts h)
  have F4 := Lib.hid (fun b (h : cHear k s = (b, 0)) => hear_facts h)
  have HRd := Lib.hid (fun w => Read_any k s w (by have := HSL.out; omega))
  have HHr := Lib.hid (fun w => Hear_any k s w (by have := HSL.out; omega))
  clear HRB HRM HSH HB HST
  generalize aWrite k p = z at *
  obtain ⟨t1, e1⟩ := z
  generalize cTell k y = z at *
  obtain ⟨t2, e2⟩ := z
  unfold TE txt at HW HT
  unfold paV at HW
  dsimp only at HW HT
  go_upto_if 41 with (refine wpList_load_row rfl 27 (.tmp 5) rfl A rfl 27 (paC p) (0, 0) _ (rowEq (HA.out.new G.out)) Try.underlying27 rfl (by kernel_rfl) ?_; (try go_simp))
  refine (HW.out _).mono ?_; rintro e w4 ⟨rfl, g⟩
  replace G := Lib.hid (World.grownBy.trans G.out g)
  clear g HW
  go_upto_if 41 with fail
  clear zs hs2 hl
  go_cut [] (fun wx => Hid (w1.grownBy wx none))
  case first =>
    by_cases he : e1 = 0
    · subst he
      obtain ⟨f1, f2, f3⟩ := F1.out t1 rfl
      have HRD := Lib.hid (fun w => Read_any k t1 w (by omega))
      rw [f1] at HRD
      unfold PT paV at HRD
      dsimp only at HRD
      clear HT F1 F2 F2L F3 F4 HRd HHr
      have zt : (⟨t1.toArray⟩ : ByteArray).size = t1.length := rfl
      have HZ : Hid ((t1.length : Int) ≤ 9223372036854775807 ∧ Int.tmod (t1.length : Int) 4 = 0 ∧ decide (4072 < (t1.length : Int)) = false) := Lib.hid ⟨by omega, by rw [Int.tmod_eq_emod_of_nonneg (by omega)]; omega, decide_eq_false (by omega)⟩
      clear f1 f2 f3
      go_wp2_with fail
      refine (HRD.out _).mono ?_; rintro e w5 ⟨rfl, g⟩
      replace G := Lib.hid (World.grownBy.trans G.out g)
      clear g
      have ga := World.grownBy_alloc w5 (.cells #[.int .i64 0, .int .i64 0, .int .i64 0, .int .i64 0, .int .i64 0, .int .i64 0, .string ⟨#[]⟩, .string ⟨#[]⟩, .string ⟨#[]⟩, .int .i64 0, .int .i64 0, .int .i64 0, .int .i64 0, .int .i64 0, .int .i64 0, .int .u64 0] 27) none
      have g5 := setRow_grown (w5.alloc (.cells #[.int .i64 0, .int .i64 0, .int .i64 0, .int .i64 0, .int .i64 0, .int .i64 0, .string ⟨#[]⟩, .string ⟨#[]⟩, .string ⟨#[]⟩, .int .i64 0, .int .i64 0, .int .i64 0, .int .i64 0, .int .i64 0, .int .i64 0, .int .u64 0] 27)) w5.heap.size (paC p)
      have HM1 := Lib.hid ((Blk.made w5 27 #[.int .i64 0, .int .i64 0, .int .i64 0, .int .i64 0, .int .i64 0, .int .i64 0, .string ⟨#[]⟩, .string ⟨#[]⟩, .string ⟨#[]⟩, .int .i64 0, .int .i64 0, .int .i64 0, .int .i64 0, .int .i64 0, .int .i64 0, .int .u64 0]).row (paC p))
      replace G := Lib.hid (grown_own (World.grownBy.trans G.out ga) g5 (fun n hn => by cases hn; have := G.out.size; omega))
      clear ga g5
      go_upto_region 6 with (refine wpList_store_row rfl 27 (.tmp 11) (.tmp 46) rfl w5.heap.size (paC p) rfl rfl 27 #[.int .i64 0, .int .i64 0, .int .i64 0, .int .i64 0, .int .i64 0, .int .i64 0, .string ⟨#[]⟩, .string ⟨#[]⟩, .string ⟨#[]⟩, .int .i64 0, .int .i64 0, .int .i64 0, .int .i64 0, .int .i64 0, .int .i64 0, .int .u64 0] (Blk.made w5 27 #[.int .i64 0, .int .i64 0, .int .i64 0, .int .i64 0, .int .i64 0, .int .i64 0, .string ⟨#[]⟩, .string ⟨#[]⟩, .string ⟨#[]⟩, .int .i64 0, .int .i64 0, .int .i64 0, .int .i64 0, .int .i64 0, .int .i64 0, .int .u64 0]) (by kernel_rfl) (by kernel_rfl) (by kernel_rfl) ?_; (try go_simp))
      generalize (w5.alloc (.cells #[.int .i64 0, .int .i64 0, .int .i64 0, .int .i64 0, .int .i64 0, .int .i64 0, .string ⟨#[]⟩, .string ⟨#[]⟩, .string ⟨#[]⟩, .int .i64 0, .int .i64 0, .int .i64 0, .int .i64 0, .int .i64 0, .int .i64 0, .int .u64 0] 27)).setRow w5.heap.size (paC p) = v5 at *
      generalize w5.heap.size = M1 at *
      have hne := fun w => neq_args p p w
      rw [decide_eq_false (show ¬ p ≠ p from fun h => h rfl)] at hne
      unfold paV at hne
      obtain ⟨q1, q2, q3⟩ := HZ.out
      go_wp2_with first | (refine wpList_load_row_if (by first | rfl | (simp [Region.wanted, yielded]; done)) 27 (.tmp 11) rfl M1 rfl 27 (paC p) (0, 0) _ (rowEq HM1.out) Try.underlying27 rfl (by kernel_rfl) ?_; (try go_simp)) | (refine wpList_load_row_if (by first | rfl | (simp [Region.wanted, yielded]; done)) 27 (.tmp 5) rfl A rfl 27 (paC p) (0, 0) _ (rowEq (HA.out.new G.out)) Try.underlying27 rfl (by kernel_rfl) ?_; (try go_simp))
      go_meet
      exact G
    · have hne : (e1 == 0) = false := by simpa using he
      clear he
      go_wp2_with fail
      go_meet
      exact G
  case rest =>
    have G := hcut
    go_upto_if 73 with (refine wpList_load_row rfl 42 (.tmp 6) rfl R rfl 42 (prC y ev) (0, 0) _ (rowEq (HR.out.new G.out)) Try.underlying42 rfl (by kernel_rfl) ?_; (try go_simp))
    refine (HT.out _ G.out).mono ?_; rintro e w6 ⟨rfl, g⟩
    replace G := Lib.hid (World.grownBy.trans G.out g)
    clear g HT
    go_upto_if 73 with fail
    go_cut [] (fun wx => Hid (w1.grownBy wx none))
    case first =>
      by_cases he : e2 = 0
      · subst he
        obtain ⟨f1, f2⟩ := F2.out t2 rfl
        have f3 := F2L.out t2 rfl
        have HHD := Lib.hid (fun w => Hear_any k t2 w f3)
        rw [f1] at HHD
        clear F1 F2 F2L F3 F4 HRd HHr
        have zt : (⟨t2.toArray⟩ : ByteArray).size = t2.length := rfl
        have HZ : Hid ((t2.length : Int) ≤ 9223372036854775807 ∧ Int.tmod (t2.length : Int) 4 = 0) := Lib.hid ⟨by omega, by rw [Int.tmod_eq_emod_of_nonneg (by omega)]; omega⟩
        clear f1 f2 f3
        go_wp2_with fail
        refine (HHD.out _).mono ?_; rintro e w7 ⟨ev2, rfl, hen, g, _⟩
        replace G := Lib.hid (World.grownBy.trans G.out g)
        obtain ⟨ea, ec, rfl, _⟩ := hen.form
        dsimp only at hen ⊢
        have HE2 := Lib.hid (hen.new (grown_own (World.grownBy_alloc w7 (.cells #[.int .i64 0, .int .i64 0, .int .i64 0, .int .i64 0, .int .u8 0, .int .i64 0, .int .i64 0, .int .i64 0, .int .i64 0, .int .i64 0, .int .i64 0, .int .i64 0, .string ⟨#[]⟩, .int .i64 0, .int .i64 0, .int .u64 0, .bool false, .slice none 0 0, .int .u64 0] 42) none) (setRow_grown (w7.alloc (.cells #[.int .i64 0, .int .i64 0, .int .i64 0, .int .i64 0, .int .u8 0, .int .i64 0, .int .i64 0, .int .i64 0, .int .i64 0, .int .i64 0, .int .i64 0, .int .i64 0, .string ⟨#[]⟩, .int .i64 0, .int .i64 0, .int .u64 0, .bool false, .slice none 0 0, .int .u64 0] 42)) w7.heap.size (prC y (.slice ea y.es.length ec))) (fun n hn => by cases hn; exact Nat.le_refl _)))
        clear g hen
        have ga := World.grownBy_alloc w7 (.cells #[.int .i64 0, .int .i64 0, .int .i64 0, .int .i64 0, .int .u8 0, .int .i64 0, .int .i64 0, .int .i64 0, .int .i64 0, .int .i64 0, .int .i64 0, .int .i64 0, .string ⟨#[]⟩, .int .i64 0, .int .i64 0, .int .u64 0, .bool false, .slice none 0 0, .int .u64 0] 42) none
        have g5 := setRow_grown (w7.alloc (.cells #[.int .i64 0, .int .i64 0, .int .i64 0, .int .i64 0, .int .u8 0, .int .i64 0, .int .i64 0, .int .i64 0, .int .i64 0, .int .i64 0, .int .i64 0, .int .i64 0, .string ⟨#[]⟩, .int .i64 0, .int .i64 0, .int .u64 0, .bool false, .slice none 0 0, .int .u64 0] 42)) w7.heap.size (prC y (.slice ea y.es.length ec))
        have HM2 := Lib.hid ((Blk.made w7 42 #[.int .i64 0, .int .i64 0, .int .i64 0, .int .i64 0, .int .u8 0, .int .i64 0, .int .i64 0, .int .i64 0, .int .i64 0, .int .i64 0, .int .i64 0, .int .i64 0, .string ⟨#[]⟩, .int .i64 0, .int .i64 0, .int .u64 0, .bool false, .slice none 0 0, .int .u64 0]).row (prC y (.slice ea y.es.length ec)))
        replace G := Lib.hid (grown_own (World.grownBy.trans G.out ga) g5 (fun n hn => by cases hn; have := G.out.size; omega))
        clear ga g5
        go_upto_region 11 with (refine wpList_store_row rfl 42 (.tmp 13) (.tmp 78) rfl w7.heap.size (prC y (.slice ea y.es.length ec)) rfl rfl 42 #[.int .i64 0, .int .i64 0, .int .i64 0, .int .i64 0, .int .u8 0, .int .i64 0, .int .i64 0, .int .i64 0, .int .i64 0, .int .i64 0, .int .i64 0, .int .i64 0, .string ⟨#[]⟩, .int .i64 0, .int .i64 0, .int .u64 0, .bool false, .slice none 0 0, .int .u64 0] (Blk.made w7 42 #[.int .i64 0, .int .i64 0, .int .i64 0, .int .i64 0, .int .u8 0, .int .i64 0, .int .i64 0, .int .i64 0, .int .i64 0, .int .i64 0, .int .i64 0, .int .i64 0, .string ⟨#[]⟩, .int .i64 0, .int .i64 0, .int .u64 0, .bool false, .slice none 0 0, .int .u64 0]) (by kernel_rfl) (by kernel_rfl) (by kernel_rfl) ?_; (try go_simp))
        generalize (w7.alloc (.cells #[.int .i64 0, .int .i64 0, .int .i64 0, .int .i64 0, .int .u8 0, .int .i64 0, .int .i64 0, .int .i64 0, .int .i64 0, .int .i64 0, .int .i64 0, .int .i64 0, .string ⟨#[]⟩, .int .i64 0, .int .i64 0, .int .u64 0, .bool false, .slice none 0 0, .int .u64 0] 42)).setRow w7.heap.size (prC y (.slice ea y.es.length ec)) = v7 at *
        generalize w7.heap.size = M2 at *
        obtain ⟨q1, q2⟩ := HZ.out
        go_wp2_with first | (refine wpList_load_row_if (by first | rfl | (simp [Region.wanted, yielded]; done)) 42 (.tmp 6) rfl R rfl 42 (prC y ev) (0, 0) _ (rowEq (HR.out.new G.out)) Try.underlying42 rfl (by kernel_rfl) ?_; (try go_simp)) | (refine wpList_load_row_if (by first | rfl | (simp [Region.wanted, yielded]; done)) 42 (.tmp 13) rfl M2 rfl 42 (prC y (.slice ea y.es.length ec)) (0, 0) _ (rowEq HM2.out) Try.underlying42 rfl (by kernel_rfl) ?_; (try go_simp))
        refine (refSame_one y ev (.slice ea y.es.length ec) _ (HEV.out.new G.out) HE2.out).mono ?_; rintro e w8 ⟨rfl, g⟩
        replace G := Lib.hid (World.grownBy.trans G.out g)
        clear g
        go_wp2_with fail
        go_meet
        exact G
      · have hne : (e2 == 0) = false := by simpa using he
        clear he
        go_wp2_with fail
        go_meet
        exact G
    case rest =>
      have G := hcut
      clear F1 F2 F2L
      have HRB := Lib.hid (fun b (h : aRead k s = (b, 0)) => read_room h)
      generalize aRead k s = z at *
      obtain ⟨b, e3⟩ := z
      unfold PT paV at HRd
      dsimp only at HRd
      go_upto_if 101 with fail
      refine (HRd.out _).mono ?_; rintro e w9 ⟨rfl, g⟩
      replace G := Lib.hid (World.grownBy.trans G.out g)
      clear g HRd
      have ga := World.grownBy_alloc w9 (.cells #[.int .i64 0, .int .i64 0, .int .i64 0, .int .i64 0, .int .i64 0, .int .i64 0, .string ⟨#[]⟩, .string ⟨#[]⟩, .string ⟨#[]⟩, .int .i64 0, .int .i64 0, .int .i64 0, .int .i64 0, .int .i64 0, .int .i64 0, .int .u64 0] 27) none
      have g5 := setRow_grown (w9.alloc (.cells #[.int .i64 0, .int .i64 0, .int .i64 0, .int .i64 0, .int .i64 0, .int .i64 0, .string ⟨#[]⟩, .string ⟨#[]⟩, .string ⟨#[]⟩, .int .i64 0, .int .i64 0, .int .i64 0, .int .i64 0, .int .i64 0, .int .i64 0, .int .u64 0] 27)) w9.heap.size (paC b)
      have HM3 := Lib.hid ((Blk.made w9 27 #[.int .i64 0, .int .i64 0, .int .i64 0, .int .i64 0, .int .i64 0, .int .i64 0, .string ⟨#[]⟩, .string ⟨#[]⟩, .string ⟨#[]⟩, .int .i64 0, .int .i64 0, .int .i64 0, .int .i64 0, .int .i64 0, .int .i64 0, .int .u64 0]).row (paC b))
      replace G := Lib.hid (grown_own (World.grownBy.trans G.out ga) g5 (fun n hn => by cases hn; have := G.out.size; omega))
      clear ga g5
      go_upto_region 14 with (refine wpList_store_row rfl 27 (.tmp 15) (.tmp 98) rfl w9.heap.size (paC b) rfl rfl 27 #[.int .i64 0, .int .i64 0, .int .i64 0, .int .i64 0, .int .i64 0, .int .i64 0, .string ⟨#[]⟩, .string ⟨#[]⟩, .string ⟨#[]⟩, .int .i64 0, .int .i64 0, .int .i64 0, .int .i64 0, .int .i64 0, .int .i64 0, .int .u64 0] (Blk.made w9 27 #[.int .i64 0, .int .i64 0, .int .i64 0, .int .i64 0, .int .i64 0, .int .i64 0, .string ⟨#[]⟩, .string ⟨#[]⟩, .string ⟨#[]⟩, .int .i64 0, .int .i64 0, .int .i64 0, .int .i64 0, .int .i64 0, .int .i64 0, .int .u64 0]) (by kernel_rfl) (by kernel_rfl) (by kernel_rfl) ?_; (try go_simp))
      generalize (w9.alloc (.cells #[.int .i64 0, .int .i64 0, .int .i64 0, .int .i64 0, .int .i64 0, .int .i64 0, .string ⟨#[]⟩, .string ⟨#[]⟩, .string ⟨#[]⟩, .int .i64 0, .int .i64 0, .int .i64 0, .int .i64 0, .int .i64 0, .int .i64 0, .int .u64 0] 27)).setRow w9.heap.size (paC b) = v9 at *
      generalize w9.heap.size = M3 at *
      go_upto_if 101 with fail
      go_cut [] (fun wx => Hid (w1.grownBy wx none))
      case first =>
        by_cases he : e3 = 0
        · subst he
          have f1 := F3.out b rfl
          obtain ⟨k1, k2, k3, k4⟩ := HRB.out b rfl
          have HWB := Lib.hid (fun w => Write_any k b w k1 k2 k3 k4)
          rw [f1] at HWB
          unfold TE txt paV at HWB
          dsimp only at HWB
          clear F3 F4 HHr HRB f1 k1 k2 k3 k4
          go_wp2_with (refine wpList_load_row rfl 27 (.tmp 15) rfl M3 rfl 27 (paC b) (0, 0) _ (rowEq HM3.out) Try.underlying27 rfl (by kernel_rfl) ?_; (try go_simp))
          refine (HWB.out _).mono ?_; rintro e w10 ⟨rfl, g⟩
          replace G := Lib.hid (World.grownBy.trans G.out g)
          clear g
          go_wp2_with fail
          go_meet
          exact G
        · have hne : (e3 == 0) = false := by simpa using he
          clear he
          go_wp2_with fail
          go_meet
          exact G
      case rest =>
        have G := hcut
        clear F3 HRB
        generalize cHear k s = z at *
        obtain ⟨y4, e4⟩ := z
        go_upto_if 122 with fail
        refine (HHr.out _).mono ?_; rintro e w11 ⟨ev4, rfl, hen, g, _⟩
        replace G := Lib.hid (World.grownBy.trans G.out g)
        obtain ⟨ea, ec, rfl, _⟩ := hen.form
        dsimp only at hen ⊢
        have HE4 := Lib.hid (hen.new (grown_own (World.grownBy_alloc w11 (.cells #[.int .i64 0, .int .i64 0, .int .i64 0, .int .i64 0, .int .u8 0, .int .i64 0, .int .i64 0, .int .i64 0, .int .i64 0, .int .i64 0, .int .i64 0, .int .i64 0, .string ⟨#[]⟩, .int .i64 0, .int .i64 0, .int .u64 0, .bool false, .slice none 0 0, .int .u64 0] 42) none) (setRow_grown (w11.alloc (.cells #[.int .i64 0, .int .i64 0, .int .i64 0, .int .i64 0, .int .u8 0, .int .i64 0, .int .i64 0, .int .i64 0, .int .i64 0, .int .i64 0, .int .i64 0, .int .i64 0, .string ⟨#[]⟩, .int .i64 0, .int .i64 0, .int .u64 0, .bool false, .slice none 0 0, .int .u64 0] 42)) w11.heap.size (prC y4 (.slice ea y4.es.length ec))) (fun n hn => by cases hn; exact Nat.le_refl _)))
        clear g hen HHr
        have ga := World.grownBy_alloc w11 (.cells #[.int .i64 0, .int .i64 0, .int .i64 0, .int .i64 0, .int .u8 0, .int .i64 0, .int .i64 0, .int .i64 0, .int .i64 0, .int .i64 0, .int .i64 0, .int .i64 0, .string ⟨#[]⟩, .int .i64 0, .int .i64 0, .int .u64 0, .bool false, .slice none 0 0, .int .u64 0] 42) none
        have g5 := setRow_grown (w11.alloc (.cells #[.int .i64 0, .int .i64 0, .int .i64 0, .int .i64 0, .int .u8 0, .int .i64 0, .int .i64 0, .int .i64 0, .int .i64 0, .int .i64 0, .int .i64 0, .int .i64 0, .string ⟨#[]⟩, .int .i64 0, .int .i64 0, .int .u64 0, .bool false, .slice none 0 0, .int .u64 0] 42)) w11.heap.size (prC y4 (.slice ea y4.es.length ec))
        have HM4 := Lib.hid ((Blk.made w11 42 #[.int .i64 0, .int .i64 0, .int .i64 0, .int .i64 0, .int .u8 0, .int .i64 0, .int .i64 0, .int .i64 0, .int .i64 0, .int .i64 0, .int .i64 0, .int .i64 0, .string ⟨#[]⟩, .int .i64 0, .int .i64 0, .int .u64 0, .bool false, .slice none 0 0, .int .u64 0]).row (prC y4 (.slice ea y4.es.length ec)))
        replace G := Lib.hid (grown_own (World.grownBy.trans G.out ga) g5 (fun n hn => by cases hn; have := G.out.size; omega))
        clear ga g5
        go_upto_region 19 with (refine wpList_store_row rfl 42 (.tmp 18) (.tmp 119) rfl w11.heap.size (prC y4 (.slice ea y4.es.length ec)) rfl rfl 42 #[.int .i64 0, .int .i64 0, .int .i64 0, .int .i64 0, .int .u8 0, .int .i64 0, .int .i64 0, .int .i64 0, .int .i64 0, .int .i64 0, .int .i64 0, .int .i64 0, .string ⟨#[]⟩, .int .i64 0, .int .i64 0, .int .u64 0, .bool false, .slice none 0 0, .int .u64 0] (Blk.made w11 42 #[.int .i64 0, .int .i64 0, .int .i64 0, .int .i64 0, .int .u8 0, .int .i64 0, .int .i64 0, .int .i64 0, .int .i64 0, .int .i64 0, .int .i64 0, .int .i64 0, .string ⟨#[]⟩, .int .i64 0, .int .i64 0, .int .u64 0, .bool false, .slice none 0 0, .int .u64 0]) (by kernel_rfl) (by kernel_rfl) (by kernel_rfl) ?_; (try go_simp))
        generalize (w11.alloc (.cells #[.int .i64 0, .int .i64 0, .int .i64 0, .int .i64 0, .int .u8 0, .int .i64 0, .int .i64 0, .int .i64 0, .int .i64 0, .int .i64 0, .int .i64 0, .int .i64 0, .string ⟨#[]⟩, .int .i64 0, .int .i64 0, .int .u64 0, .bool false, .slice none 0 0, .int .u64 0] 42)).setRow w11.heap.size (prC y4 (.slice ea y4.es.length ec)) = v11 at *
        generalize w11.heap.size = M4 at *
        by_cases he : e4 = 0
        · subst he
          obtain ⟨f1, f2, f3⟩ := F4.out y4 rfl
          have HTL := Lib.hid (fun w he => Tell_any k y4 (.slice ea y4.es.length ec) w f2 he (by rw [f3]; have := HSL.out; omega))
          rw [f1] at HTL
          unfold TE txt at HTL
          dsimp only at HTL
          clear F4 f1 f2 f3
          go_wp2_with (refine wpList_load_row rfl 42 (.tmp 18) rfl M4 rfl 42 (prC y4 (.slice ea y4.es.length ec)) (0, 0) _ (rowEq HM4.out) Try.underlying42 rfl (by kernel_rfl) ?_; (try go_simp))
          refine (HTL.out _ HE4.out).mono ?_; rintro e w12 ⟨rfl, g⟩
          replace G := Lib.hid (World.grownBy.trans G.out g)
          clear g
          go_wp2_with fail
          go_ret
          exact ⟨rfl, World.grownBy.trans HG.out G.out⟩
        · have hne : (e4 != 0) = true := by simpa using he
          clear he
          go_wp2_with fail
          go_ret
          exact ⟨rfl, World.grownBy.trans HG.out G.out⟩

theorem back_main (k : Int) (_ : (Lit.int .i64 k).wf = true) (v u : Value) (s : ByteArray) (hs : s.size ≤ maxLen) (w : World) (hv : PAin v) (hu : PRin w u) :
    Calls Try.prog 6 #[.int .i64 k, v, u, .string s] w fun e w' => e = .returned (.bool true) ∧ w.grownBy w' none := by
  obtain ⟨p, rfl, ok, hn, ho, hx⟩ := hv
  obtain ⟨y, ev, rfl, hev, b1, b2, b3, hyx, hnm⟩ := hu
  exact back_walk k p y ev s.data.toList w ok hn ho hx (by simpa using hs) hev hyx hnm b1 b2 b3
end Go.Proofs.Ytpklgcinijlmmaa
namespace Go.Proofs.Ytpklgcinijlmmaa.argsBack
open Go.ChangeShapes Go.WideShapes Go.ChangeAt Go.RowKit

theorem own : ownKnob Try.prog.godebug = none := by kernel_rfl
theorem laidOut : laidOutB Try.prog = true := by kernel_rfl
theorem cellsU8 : Try.prog.cellsOf 5 = 1 := by kernel_rfl
theorem readable : ∀ t ∈ Try.f6.params.toList, Try.prog.readableRec t = true ∧ t < Try.prog.types.size := by
  rw [Try.params6]
  intro t ht
  simp at ht
  rcases ht with rfl | rfl | rfl | rfl <;> exact ⟨by kernel_rfl, of_decide_eq_true (by kernel_rfl)⟩

set_option maxRecDepth 100000 in
theorem lifted (os : Os) (started : os.Started) (H : Type) (enc : TypeId × Value → H) :
    ReturnsInHanded {} Try.checked os 6 .any (Rows.argsBackSpec.pre6 enc Try.prog Try.f6 Rows.argsBackRow.domain false) (Rows.argsBackSpec.post enc Try.prog Try.f6 false true false false) := by
  refine returnsInHanded_of_change (C := Try.checked) own started (by kernel_rfl) Try.func6
    (ChangeSpec.witness6 (enc := enc) (C := Try.checked) false ⟨#[], #[.int .i64 0, .agg #[.int .i64 0, .int .i64 0, .int .i64 0, .int .i64 0, .int .i64 0, .int .i64 0, .string ⟨#[]⟩, .string ⟨#[]⟩, .string ⟨#[]⟩, .int .i64 0, .int .i64 0, .int .i64 0, .int .i64 0, .int .i64 0, .int .i64 0, .int .u64 0], .agg #[.int .i64 0, .int .i64 0, .int .i64 0, .int .i64 0, .int .u8 0, .int .i64 0, .int .i64 0, .int .i64 0, .int .i64 0, .int .i64 0, .int .i64 0, .int .i64 0, .string ⟨#[]⟩, .int .i64 0, .int .i64 0, .int .u64 0, .bool false, .slice none 0 0, .int .u64 0], .string ⟨#[]⟩], []⟩ 8 (by kernel_rfl) (by kernel_rfl) (by kernel_rfl) (by kernel_rfl)) ?_
  intro W base args ds gs before hval0 hW hcnd _
  have hval : ∀ (j : Nat) t v, Try.f6.params[j]? = some t → args[j]? = some v → Value.okWide Try.prog W .any base t v := hval0
  have hW' := hW
  obtain ⟨p, q, hA0, hV, hps, hfz, hnd⟩ := hW
  have hA : DataW.TrodAll enc Try.prog W 0 (fun _ => true) true Try.f6.params.toList args.toList ds p := hA0
  rw [Try.params6] at hA hval
  obtain ⟨v0, vs0, d0, ds0, p0, q0, hargs0, hds0, hps0, h0, r0⟩ := trodAll_cons hA
  obtain ⟨v1, vs1, d1, ds1, p1, q1, hargs1, hds1, hps1, h1, r1⟩ := trodAll_cons r0
  obtain ⟨v2, vs2, d2, ds2, p2, q2, hargs2, hds2, hps2, h2, r2⟩ := trodAll_cons r1
  obtain ⟨v3, vs3, d3, ds3, p3, q3, hargs3, hds3, hps3, h3, r3⟩ := trodAll_cons r2
  obtain ⟨hargsN, hdsN, hpsN⟩ := trodAll_nil r3
  subst hdsN hds3 hds2 hds1 hds0
  obtain rfl : args = #[v0, v1, v2, v3] := by cases args; simp_all
  obtain ⟨rfl, rfl⟩ := trodVars_none hV
  clear hA hA0 hV hval0 hfz hnd hps hcnd hargs0 hps0 hargs1 hps1 hargs2 hps2 hargs3 hps3 hargsN hpsN r0 r1 r2 r3
  obtain ⟨a0, rfl, rfl, rfl, w0⟩ := open_int Try.underlying3 (hval 0 _ v0 rfl rfl) h0
  have k1 := open_args (hval 1 _ v1 rfl rfl) h1
  have k2 := open_result (hval 2 _ v2 rfl rfl) h2
  obtain ⟨a3, rfl, rfl, rfl, w3⟩ := ChangeMaps.open_string Try.underlying9 (hval 3 _ v3 rfl rfl) h3
  refine (back_main a0 w0 v1 v2 a3 w3 W  k1 k2 ).mono fun e W2 ⟨he, hg⟩ => ?_
  subst he
  exact ⟨_, rfl, law_end laidOut readable rfl hW' rfl rfl Try.underlying4 hg⟩

theorem over : Rows.argsBackRow.holds Try.pinned (OpenSpec.ofChange Rows.argsBackSpec) :=
  OpenClaim.holds_of_wide 6 Try.f6 rfl rfl rfl rfl rfl rfl rfl ⟨rfl, rfl, rfl, rfl, rfl⟩ rfl rfl rfl rfl rfl (by kernel_rfl) Try.func6 (by kernel_rfl)
    (of_decide_eq_true (by kernel_rfl)) (by unfold Func.isWrapper; first | (rw [if_pos (by decide +kernel)]; kernel_rfl) | (rw [if_neg (by decide +kernel)]; exact ⟨rfl, rfl⟩))
    (fun os started H enc _ => lifted os started H enc)

theorem proved : Rows.ArgsBackSaid := over
end Go.Proofs.Ytpklgcinijlmmaa.argsBack
