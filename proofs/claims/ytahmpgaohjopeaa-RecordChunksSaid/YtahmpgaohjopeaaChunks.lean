/- RecordChunks, walked. -/
import Derived.Test.YtahmpgaohjopeaaTool
namespace Go.Proofs.Ytahmpgaohjopeaa
open Go.RowKit

/-- Two readers, and what each told. -/
structure Duo (W w : World) (r1 : Nat) (v1 : Value) (s1 : Ms) (r2 : Nat) (v2 : Value) (s2 : Ms) (a : Value) (xs : List (List UInt8)) (p : Value) (ys : List (List UInt8)) : Prop where
  one : RS w r1 v1 s1
  two : RS w r2 v2 s2
  ta : Texts w W.heap.size a xs
  tp : Texts w W.heap.size p ys
  fv : Far v1 v2
  ft : Far a p
  gr : W.grownBy w none
  lo1 : W.heap.size ≤ r1
  lo2 : W.heap.size ≤ r2
  ne : r1 ≠ r2
  lv : ∀ g, v2.ownBlock = some g → W.heap.size ≤ g

theorem StpN.lows {W w w' : World} {r : Nat} {v v' : Value} (h : StpN w.heap.size w r v w' v') (hw : W.heap.size ≤ w.heap.size) (hv : ∀ g, v.ownBlock = some g → W.heap.size ≤ g) : ∀ g, v'.ownBlock = some g → W.heap.size ≤ g := fun g hg => by
  rcases h.frm with k | k | k
  · rw [k] at hg; cases hg
  · exact hv g (k ▸ hg)
  · exact Nat.le_trans hw (k g hg)

/-- The second reader was fed. -/
theorem Duo.feed {W w w' : World} {r1 r2 : Nat} {v1 v2 v2' a p l : Value} {s1 s2 s2' : Ms} {xs ys zs : List (List UInt8)} (h : Duo W w r1 v1 s1 r2 v2 s2 a xs p ys) (hr : RS w' r2 v2' s2') (hs : StpN w.heap.size w r2 v2 w' v2') (hl : Texts w' w.heap.size l zs) :
    Duo W w' r1 v1 s1 r2 v2' s2' a xs p ys ∧ Texts w' W.heap.size l zs ∧ Far l p ∧ Far a l := by
  have apart : ∀ (q : Value) (ws : List (List UInt8)), Texts w W.heap.size q ws → Far l q := fun q ws hq => by
    rcases hol : l.ownBlock with _ | g
    · exact .inl hol
    · refine .inr fun e => ?_
      have := (hl.lt g hol).1
      have := (hq.lt g (by rw [← e, hol])).2
      omega
  refine ⟨⟨h.one.other h.two hs h.ne h.fv, hr, h.ta.other h.two hs, h.tp.other h.two hs, h.fv.stp hs (fun g hg => (h.one.lt g hg).1), h.ft, hs.grown h.gr h.lo2 (fun g hg => h.lv g (room_own hg)), h.lo1, h.lo2, h.ne, hs.lows h.gr.size h.lv⟩, hl.low h.gr.size, apart p ys h.tp, (apart a xs h.ta).symm⟩

/-- What was told was put behind what was told ahead. -/
theorem Duo.append {W w w' : World} {r1 r2 : Nat} {v1 v2 a p p' : Value} {s1 s2 : Ms} {xs ys zs : List (List UInt8)} (h : Duo W w r1 v1 s1 r2 v2 s2 a xs p ys) (ha : AppT w W.heap.size p (ys ++ zs) p' w') : Duo W w' r1 v1 s1 r2 v2 s2 a xs p' (ys ++ zs) := by
  obtain ⟨k1, k2, k3⟩ := ha
  refine ⟨h.one.row h.tp k2, h.two.row h.tp k2, h.ta.kept k2 h.ft, k1, h.fv, ?_, grown_own h.gr k2 (fun n hn => (h.tp.lt n hn).1), h.lo1, h.lo2, h.ne, h.lv⟩
  rcases k3 with k3 | k3
  · rcases h.ft with f | f
    · exact .inl f
    · exact .inr (by rw [k3]; exact f)
  · rcases hoa : a.ownBlock with _ | g
    · exact .inl hoa
    · refine .inr (by rw [hoa, k3]; intro e; cases e; have := (h.ta.lt _ hoa).2; omega)

theorem take_pre {bs pre suf : List UInt8} {T : Nat} (h : bs = pre ++ suf) (hT : pre.length ≤ T) : bs.take T = pre ++ (bs.take T).drop pre.length := by
  have h1 : bs.take pre.length = pre := by rw [h]; simp
  have h2 := (List.take_append_drop pre.length (bs.take T)).symm
  rw [List.take_take, Nat.min_eq_left hT, h1] at h2
  exact h2

theorem cnt_le (pre ch : List UInt8) (n m : Nat) (h1 : pre.length ≤ n) (h2 : ch.length ≤ n) (h : n + n ≤ m) : (Ms.new.run pre).2.length + ((Ms.new.run pre).1.run ch).2.length ≤ m :=
  Nat.le_trans (Nat.add_le_add (Nat.le_trans (Ms.run_count _ _) h1) (Nat.le_trans (Ms.run_count _ _) h2)) h
theorem came_le (pre ch : List UInt8) (n m : Nat) (h1 : pre.length ≤ n) (h2 : ch.length ≤ n) (h : n + n ≤ m) : (Ms.new.run pre).1.came + ch.length ≤ m :=
  Nat.le_trans (Nat.add_le_add (Nat.le_trans (Ms.new_came _) h1) h2) h

theorem code_end (s : Ms) (l : List UInt8) : code (s.run l).1 = 40 ∨ (code (s.run l).1 = 0 ∧ code s = 0) := by
  by_cases h : (s.run l).1.shut = true
  · exact .inl (by unfold code; rw [if_pos h])
  · refine .inr ⟨by unfold code; rw [if_neg h], ?_⟩
    by_cases hs : s.shut = true
    · rw [Ms.run_shut s l hs] at h; exact absurd hs h
    · unfold code; rw [if_neg hs]

theorem run_next (pre ch : List UInt8) : Ms.new.run (pre ++ ch) = (((Ms.new.run pre).1.run ch).1, (Ms.new.run pre).2 ++ ((Ms.new.run pre).1.run ch).2) := Ms.run_append _ _ _

set_option maxRecDepth 100000 in
set_option maxHeartbeats 3200000 in
theorem chunks_short (b : Value) (bs : List UInt8) (v : Value) (cs : List UInt8) (W : World) (hb : Bts W b bs) (hv : Bts W v cs) (hl : bs.length ≤ 9000) :
    Calls Try.prog 6 #[b, v] W fun e w' => e = .returned (.bool true) ∧ W.grownBy w' none := by
  obtain ⟨a1, c1, rfl, hc1, hm1⟩ := hb.form
  obtain ⟨a2, c2, rfl, hc2, hm2⟩ := hv.form
  have hl' : (bs.length : Int) ≤ 9000 := by omega
  have HB := Lib.hid hb; have HV := Lib.hid hv
  clear hb hv
  go_enter Try.func6, Try.ntmps6
  go_wp2_with fail
  refine (awake_any _).mono ?_; rintro e w1 ⟨rfl, hg1⟩
  have HG1 := Lib.hid hg1; clear hg1
  go_wp2_with fail
  refine (new_any w1).mono ?_; rintro e w2 ⟨r1, rfl, hr1, hg2, hle1⟩
  have HR1 := Lib.hid hr1; have HG2 := Lib.hid hg2; have HL1 := Lib.hid hle1; clear hr1 hg2 hle1
  go_wp2_with fail
  refine (new_any w2).mono ?_; rintro e w3 ⟨r2, rfl, hr2, hg3, hle2⟩
  have HR2 := Lib.hid hr2; have HG3 := Lib.hid hg3; have HL2 := Lib.hid hle2; clear hr2 hg3 hle2
  go_wp2_with fail
  have hap : Apart bs (.slice a1 bs.length c1) (.slice none 0 0) r1 w3.heap.size := apart_arg HB.out (.inr rfl) id (World.grownBy.trans HG1.out (World.grownBy.trans HG2.out HG3.out)).size (Nat.le_trans HG1.out.size HL1.out) (fun g hg => by cases hg)
  refine (feed_any r1 _ _ .new bs w3 (HR1.out.new HG3.out) Ms.Ok.new (by simp [Ms.new]; omega) (by omega) (HB.out.new (World.grownBy.trans HG1.out (World.grownBy.trans HG2.out HG3.out))) hap).mono ?_
  rintro e w4 hf
  obtain ⟨v1, al, kl, rfl, q1, q2, q3⟩ := hf.any
  have hg13 := World.grownBy.trans HG1.out (World.grownBy.trans HG2.out HG3.out)
  have hne : r1 ≠ r2 := by
    obtain ⟨_, _, _, _, hb', _, _⟩ := HR1.out
    have := hb'.lt
    have := HL2.out
    omega
  have hduo : Duo W w4 r1 v1 (Ms.new.run bs).1 r2 (.slice none 0 0) .new (.slice al (Ms.new.run bs).2.length kl) (Ms.new.run bs).2 (.slice none 0 0) [] :=
    ⟨q1, HR2.out.other (HR1.out.new HG3.out) q2 hne.symm (.inl rfl), q3.low hg13.size, Texts.nil _ _, far_nil v1, far_nil _,
      q2.grown hg13 (Nat.le_trans HG1.out.size HL1.out) (fun g hg => by cases hg), Nat.le_trans HG1.out.size HL1.out, Nat.le_trans (World.grownBy.trans HG1.out HG2.out).size HL2.out, hne, fun g hg => by cases hg⟩
  have HD := Lib.hid hduo
  have hcl : (cs.length : Int) ≤ 9223372036854775807 := by unfold maxLen at hm2; omega
  clear hap hf q1 q2 q3 hg13 hne hduo HR1 HR2 HG1 HG2 HG3 HL1 HL2 hc1 hc2 hm1 hm2
  generalize hN : (Ms.new.run bs).2.length = nn at *
  clear hN
  go_wp2_with fail
  go_loopw [9, 10, 11, 12] (fun parts f at_ i w' => ∃ (pre suf : List UInt8) (k : Nat) (v2 : Value), bs = pre ++ suf ∧ at_ = .int .i64 pre.length ∧ i = .int .i64 k ∧ k ≤ cs.length ∧ f = .int .i64 (code (Ms.new.run pre).1) ∧
      Duo W w' r1 v1 (Ms.new.run bs).1 r2 v2 (Ms.new.run pre).1 (.slice al nn kl) (Ms.new.run bs).2 parts (Ms.new.run pre).2) (fun _ _ _ i _ => cs.length - (intOf i).toNat)
  case atStart => exact ⟨[], bs, 0, _, rfl, rfl, rfl, Nat.zero_le _, rfl, HD.out⟩
  case round =>
    obtain ⟨pre, suf, k, v2, hbs, rfl, rfl, hk, rfl, hduo⟩ := hrel
    obtain ⟨ap, kp, rfl⟩ := hduo.tp.form
    have hpl : pre.length ≤ bs.length := by rw [hbs]; simp
    have hpl' : (pre.length : Int) ≤ bs.length := by omega
    have HDU := Lib.hid hduo; have HBS := Lib.hid hbs
    clear hduo hbs
    by_cases hk1 : k < cs.length
    · by_cases hp1 : pre.length < bs.length
      · obtain ⟨gc, oc, cc, ec, hcell, _⟩ := HV.out.at (by omega)
        cases ec
        have hc0 := HDU.out.gr.cell (hcell k hk1) (by simp)
        have hk2 : (k : Int) < cs.length := by omega
        have hp2 : (pre.length : Int) < bs.length := by omega
        have hk3 : (0 : Int) ≤ k := by omega
        clear hcell
        have hx : (cs[k].toNat : Int) ≤ 255 := by have := cs[k].toNat_lt; omega
        have hx0 : (0 : Int) ≤ cs[k].toNat := by omega
        generalize cs[k].toNat = x at *
        by_cases hmin : pre.length + x ≤ bs.length
        · have hmin' : (pre.length : Int) + x ≤ bs.length := by omega
          obtain ⟨a4, k4, e4, o4, b4⟩ := cut_mid _ W _ HB.out pre.length (pre.length + x) (by omega) (by omega)
          have hnil : (bs.take (pre.length + x)).drop pre.length ≠ [] → bs ≠ [] := fun h h0 => h (by rw [h0]; simp)
          have hpre : bs.take (pre.length + x) = pre ++ (bs.take (pre.length + x)).drop pre.length := take_pre HBS.out (by omega)
          have hT : (bs.take (pre.length + x)).length = pre.length + x := List.length_take_of_le (by omega)
          have hbsT : bs = bs.take (pre.length + x) ++ bs.drop (pre.length + x) := (List.take_append_drop _ _).symm
          rw [Int.natCast_add] at e4
          rw [Nat.add_sub_cancel_left] at e4 o4 b4
          generalize hch : (bs.take (pre.length + x)).drop pre.length = ch at *
          have hlch : ch.length ≤ bs.length := by rw [← hch]; simp <;> omega
          have HT := Lib.hid hT; have HP := Lib.hid hpre; have HBT := Lib.hid hbsT
          clear hT hpre hbsT hch
          have hf := feed_any r2 v2 _ (Ms.new.run pre).1 ch wr HDU.out.two (Ms.new_ok pre) (came_le pre ch bs.length _ hpl hlch (by omega)) (by omega) (b4 _ (HB.out.new HDU.out.gr)) (apart_arg HB.out o4 hnil HDU.out.gr.size HDU.out.lo2 HDU.out.lv)
          have HF := Lib.hid hf
          have HCC := Lib.hid (run_next pre ch)
          clear hf b4 o4 hnil
          go_wp2_with fail
          refine HF.out.mono ?_; rintro e w5 hf
          obtain ⟨v5, al5, kl5, rfl, q1, q2, q3⟩ := hf.any
          obtain ⟨d1, d2, d3, d4⟩ := HDU.out.feed q1 q2 q3
          have D1 := Lib.hid d1; have D2 := Lib.hid d2
          have hcnt := cnt_le pre ch bs.length 1000000000000 hpl hlch (by omega)
          have HCN := Lib.hid hcnt
          clear d1 d2 d3 d4 q1 q2 q3 hf hcnt
          generalize hr5 : (Ms.new.run pre).1.run ch = r5 at *
          clear hr5
          go_wp2_with (at_builtin; refine wpList_append_txt rfl _ _ rfl W.heap.size _ _ _ _ rfl rfl D1.out.tp D2.out.strs HCN.out D1.out.gr.size ?_; rintro v7 w7 hap; obtain ⟨a7, k7, rfl⟩ := hap.1.form; have D3 := Lib.hid (D1.out.append hap); clear hap)
          go_roundw
          case rel =>
            refine ⟨bs.take (pre.length + x), bs.drop (pre.length + x), k + 1, v5, HBT.out, by rw [HT.out]; go_num, by go_num, by omega, ?_, ?_⟩
            · rw [HP.out, HCC.out]
            · have h := D3.out
              rw [HP.out, HCC.out]
              rw [List.length_append] at h
              exact h
          case measure => simp [intOf]; omega
        · have hmin' : (bs.length : Int) < (pre.length : Int) + x := by omega
          obtain ⟨a4, k4, e4, o4, b4⟩ := cut_mid _ W _ HB.out pre.length (bs.length) (by omega) (by omega)
          have hnil : (bs.take (bs.length)).drop pre.length ≠ [] → bs ≠ [] := fun h h0 => h (by rw [h0]; simp)
          have hpre : bs.take (bs.length) = pre ++ (bs.take (bs.length)).drop pre.length := take_pre HBS.out (by omega)
          have hT : (bs.take (bs.length)).length = bs.length := List.length_take_of_le (by omega)
          have hbsT : bs = bs.take (bs.length) ++ bs.drop (bs.length) := (List.take_append_drop _ _).symm
          generalize hch : (bs.take (bs.length)).drop pre.length = ch at *
          have hlch : ch.length ≤ bs.length := by rw [← hch]; simp <;> omega
          have HT := Lib.hid hT; have HP := Lib.hid hpre; have HBT := Lib.hid hbsT
          clear hT hpre hbsT hch
          have hf := feed_any r2 v2 _ (Ms.new.run pre).1 ch wr HDU.out.two (Ms.new_ok pre) (came_le pre ch bs.length _ hpl hlch (by omega)) (by omega) (b4 _ (HB.out.new HDU.out.gr)) (apart_arg HB.out o4 hnil HDU.out.gr.size HDU.out.lo2 HDU.out.lv)
          have HF := Lib.hid hf
          have HCC := Lib.hid (run_next pre ch)
          clear hf b4 o4 hnil
          go_wp2_with fail
          refine HF.out.mono ?_; rintro e w5 hf
          obtain ⟨v5, al5, kl5, rfl, q1, q2, q3⟩ := hf.any
          obtain ⟨d1, d2, d3, d4⟩ := HDU.out.feed q1 q2 q3
          have D1 := Lib.hid d1; have D2 := Lib.hid d2
          have hcnt := cnt_le pre ch bs.length 1000000000000 hpl hlch (by omega)
          have HCN := Lib.hid hcnt
          clear d1 d2 d3 d4 q1 q2 q3 hf hcnt
          generalize hr5 : (Ms.new.run pre).1.run ch = r5 at *
          clear hr5
          go_wp2_with (at_builtin; refine wpList_append_txt rfl _ _ rfl W.heap.size _ _ _ _ rfl rfl D1.out.tp D2.out.strs HCN.out D1.out.gr.size ?_; rintro v7 w7 hap; obtain ⟨a7, k7, rfl⟩ := hap.1.form; have D3 := Lib.hid (D1.out.append hap); clear hap)
          go_roundw
          case rel =>
            refine ⟨bs.take (bs.length), bs.drop (bs.length), k + 1, v5, HBT.out, by rw [HT.out], by go_num, by omega, ?_, ?_⟩
            · rw [HP.out, HCC.out]
            · have h := D3.out
              rw [HP.out, HCC.out]
              rw [List.length_append] at h
              exact h
          case measure => simp [intOf]; omega
      · have hp3 : (bs.length : Int) ≤ pre.length := by omega
        have hk2 : (k : Int) < cs.length := by omega
        obtain ⟨a4, k4, e4, o4, b4⟩ := cut_past _ W _ HB.out pre.length hpl
        have hnil : bs.drop pre.length ≠ [] → bs ≠ [] := fun h h0 => h (by rw [h0]; simp)
        have hch : bs.drop pre.length = suf := by rw [HBS.out]; simp
        rw [hch] at b4 hnil
        have hlch : suf.length ≤ bs.length := by have := congrArg List.length HBS.out; rw [List.length_append] at this; omega
        have hf := feed_any r2 v2 _ (Ms.new.run pre).1 suf wr HDU.out.two (Ms.new_ok pre) (came_le pre suf bs.length _ hpl hlch (by omega)) (by omega) (b4 _ (HB.out.new HDU.out.gr)) (apart_arg HB.out o4 hnil HDU.out.gr.size HDU.out.lo2 HDU.out.lv)
        have HF := Lib.hid hf
        have hb : Ms.new.run bs = (((Ms.new.run pre).1.run suf).1, (Ms.new.run pre).2 ++ ((Ms.new.run pre).1.run suf).2) := by rw [HBS.out]; exact run_next pre suf
        have hcame := came_le pre suf bs.length 9000000 hpl hlch (by omega)
        have hc2 := Ms.run_came (Ms.new.run pre).1 suf
        have HB5 := Lib.hid hb
        have hcode := code_end (Ms.new.run pre).1 suf
        clear hf b4 o4 hnil hch hb
        go_wp2_with fail
        refine HF.out.mono ?_; rintro e w5 hf
        obtain ⟨v5, al5, kl5, rfl, q1, q2, q3⟩ := hf.any
        obtain ⟨d1, d2, d3, d4⟩ := HDU.out.feed q1 q2 q3
        have D1 := Lib.hid d1; have D2 := Lib.hid d2
        have hcnt := cnt_le pre suf bs.length 1000000000000 hpl hlch (by omega)
        have HCN := Lib.hid hcnt
        clear d1 d2 d3 d4 q1 q2 q3 hf hcnt HDU HF
        rw [HB5.out] at D1 ⊢
        generalize hr5 : (Ms.new.run pre).1.run suf = r5 at *
        clear hr5
        have hcm5 : r5.1.came ≤ 9223372036854775807 := by omega
        rcases hcode with hcA | ⟨hcA, hcB⟩
        · dsimp only
          rw [hcA] at *
          go_wp2_with (at_builtin; refine wpList_append_txt rfl _ _ rfl W.heap.size _ _ _ _ rfl rfl D1.out.tp D2.out.strs HCN.out D1.out.gr.size ?_; rintro v7 w7 hap; obtain ⟨a7, k7, rfl⟩ := hap.1.form; have D3 := Lib.hid (D1.out.append hap); clear hap)
          rw [List.length_append] at D3
          refine (same_true _ _ _ _ D3.out.ta.strs D3.out.tp.strs).mono ?_; rintro e w8 ⟨rfl, hg8⟩
          have HG8 := Lib.hid hg8
          have HH1 := Lib.hid (held_any r1 v1 r5.1 w8 (D3.out.one.new hg8) hcm5)
          have HH2 := Lib.hid (held_any r2 v5 r5.1 w8 (D3.out.two.new hg8) hcm5)
          have HS1 := Lib.hid (shut_any r1 v1 r5.1 w8 (D3.out.one.new hg8))
          have HS2 := Lib.hid (shut_any r2 v5 r5.1 w8 (D3.out.two.new hg8))
          clear hg8
          go_wp2_with fail
          refine HH1.out.mono ?_; rintro e w9 ⟨rfl, rfl⟩
          go_wp2_with fail
          refine HH2.out.mono ?_; rintro e w9 ⟨rfl, rfl⟩
          go_wp2_with fail
          refine HS1.out.mono ?_; rintro e w9 ⟨rfl, rfl⟩
          go_wp2_with fail
          refine HS2.out.mono ?_; rintro e w9 ⟨rfl, rfl⟩
          generalize r5.1.came = zz at *
          generalize r5.1.shut = zs at *
          go_wp2_with fail
          go_ret
          exact ⟨rfl, World.grownBy.trans D3.out.gr HG8.out⟩
        · dsimp only
          rw [hcA] at *
          rw [hcB] at *
          go_wp2_with (at_builtin; refine wpList_append_txt rfl _ _ rfl W.heap.size _ _ _ _ rfl rfl D1.out.tp D2.out.strs HCN.out D1.out.gr.size ?_; rintro v7 w7 hap; obtain ⟨a7, k7, rfl⟩ := hap.1.form; have D3 := Lib.hid (D1.out.append hap); clear hap)
          rw [List.length_append] at D3
          refine (same_true _ _ _ _ D3.out.ta.strs D3.out.tp.strs).mono ?_; rintro e w8 ⟨rfl, hg8⟩
          have HG8 := Lib.hid hg8
          have HH1 := Lib.hid (held_any r1 v1 r5.1 w8 (D3.out.one.new hg8) hcm5)
          have HH2 := Lib.hid (held_any r2 v5 r5.1 w8 (D3.out.two.new hg8) hcm5)
          have HS1 := Lib.hid (shut_any r1 v1 r5.1 w8 (D3.out.one.new hg8))
          have HS2 := Lib.hid (shut_any r2 v5 r5.1 w8 (D3.out.two.new hg8))
          clear hg8
          go_wp2_with fail
          refine HH1.out.mono ?_; rintro e w9 ⟨rfl, rfl⟩
          go_wp2_with fail
          refine HH2.out.mono ?_; rintro e w9 ⟨rfl, rfl⟩
          go_wp2_with fail
          refine HS1.out.mono ?_; rintro e w9 ⟨rfl, rfl⟩
          go_wp2_with fail
          refine HS2.out.mono ?_; rintro e w9 ⟨rfl, rfl⟩
          generalize r5.1.came = zz at *
          generalize r5.1.shut = zs at *
          go_wp2_with fail
          go_ret
          exact ⟨rfl, World.grownBy.trans D3.out.gr HG8.out⟩
    · have hk2 : (cs.length : Int) ≤ k := by omega
      obtain ⟨a4, k4, e4, o4, b4⟩ := cut_past _ W _ HB.out pre.length hpl
      have hnil : bs.drop pre.length ≠ [] → bs ≠ [] := fun h h0 => h (by rw [h0]; simp)
      have hch : bs.drop pre.length = suf := by rw [HBS.out]; simp
      rw [hch] at b4 hnil
      have hlch : suf.length ≤ bs.length := by have := congrArg List.length HBS.out; rw [List.length_append] at this; omega
      have hf := feed_any r2 v2 _ (Ms.new.run pre).1 suf wr HDU.out.two (Ms.new_ok pre) (came_le pre suf bs.length _ hpl hlch (by omega)) (by omega) (b4 _ (HB.out.new HDU.out.gr)) (apart_arg HB.out o4 hnil HDU.out.gr.size HDU.out.lo2 HDU.out.lv)
      have HF := Lib.hid hf
      have hb : Ms.new.run bs = (((Ms.new.run pre).1.run suf).1, (Ms.new.run pre).2 ++ ((Ms.new.run pre).1.run suf).2) := by rw [HBS.out]; exact run_next pre suf
      have hcame := came_le pre suf bs.length 9000000 hpl hlch (by omega)
      have hc2 := Ms.run_came (Ms.new.run pre).1 suf
      have HB5 := Lib.hid hb
      have hcode := code_end (Ms.new.run pre).1 suf
      clear hf b4 o4 hnil hch hb
      go_wp2_with fail
      refine HF.out.mono ?_; rintro e w5 hf
      obtain ⟨v5, al5, kl5, rfl, q1, q2, q3⟩ := hf.any
      obtain ⟨d1, d2, d3, d4⟩ := HDU.out.feed q1 q2 q3
      have D1 := Lib.hid d1; have D2 := Lib.hid d2
      have hcnt := cnt_le pre suf bs.length 1000000000000 hpl hlch (by omega)
      have HCN := Lib.hid hcnt
      clear d1 d2 d3 d4 q1 q2 q3 hf hcnt HDU HF
      rw [HB5.out] at D1 ⊢
      generalize hr5 : (Ms.new.run pre).1.run suf = r5 at *
      clear hr5
      have hcm5 : r5.1.came ≤ 9223372036854775807 := by omega
      rcases hcode with hcA | ⟨hcA, hcB⟩
      · dsimp only
        rw [hcA] at *
        go_wp2_with (at_builtin; refine wpList_append_txt rfl _ _ rfl W.heap.size _ _ _ _ rfl rfl D1.out.tp D2.out.strs HCN.out D1.out.gr.size ?_; rintro v7 w7 hap; obtain ⟨a7, k7, rfl⟩ := hap.1.form; have D3 := Lib.hid (D1.out.append hap); clear hap)
        rw [List.length_append] at D3
        refine (same_true _ _ _ _ D3.out.ta.strs D3.out.tp.strs).mono ?_; rintro e w8 ⟨rfl, hg8⟩
        have HG8 := Lib.hid hg8
        have HH1 := Lib.hid (held_any r1 v1 r5.1 w8 (D3.out.one.new hg8) hcm5)
        have HH2 := Lib.hid (held_any r2 v5 r5.1 w8 (D3.out.two.new hg8) hcm5)
        have HS1 := Lib.hid (shut_any r1 v1 r5.1 w8 (D3.out.one.new hg8))
        have HS2 := Lib.hid (shut_any r2 v5 r5.1 w8 (D3.out.two.new hg8))
        clear hg8
        go_wp2_with fail
        refine HH1.out.mono ?_; rintro e w9 ⟨rfl, rfl⟩
        go_wp2_with fail
        refine HH2.out.mono ?_; rintro e w9 ⟨rfl, rfl⟩
        go_wp2_with fail
        refine HS1.out.mono ?_; rintro e w9 ⟨rfl, rfl⟩
        go_wp2_with fail
        refine HS2.out.mono ?_; rintro e w9 ⟨rfl, rfl⟩
        generalize r5.1.came = zz at *
        generalize r5.1.shut = zs at *
        go_wp2_with fail
        go_ret
        exact ⟨rfl, World.grownBy.trans D3.out.gr HG8.out⟩
      · dsimp only
        rw [hcA] at *
        rw [hcB] at *
        go_wp2_with (at_builtin; refine wpList_append_txt rfl _ _ rfl W.heap.size _ _ _ _ rfl rfl D1.out.tp D2.out.strs HCN.out D1.out.gr.size ?_; rintro v7 w7 hap; obtain ⟨a7, k7, rfl⟩ := hap.1.form; have D3 := Lib.hid (D1.out.append hap); clear hap)
        rw [List.length_append] at D3
        refine (same_true _ _ _ _ D3.out.ta.strs D3.out.tp.strs).mono ?_; rintro e w8 ⟨rfl, hg8⟩
        have HG8 := Lib.hid hg8
        have HH1 := Lib.hid (held_any r1 v1 r5.1 w8 (D3.out.one.new hg8) hcm5)
        have HH2 := Lib.hid (held_any r2 v5 r5.1 w8 (D3.out.two.new hg8) hcm5)
        have HS1 := Lib.hid (shut_any r1 v1 r5.1 w8 (D3.out.one.new hg8))
        have HS2 := Lib.hid (shut_any r2 v5 r5.1 w8 (D3.out.two.new hg8))
        clear hg8
        go_wp2_with fail
        refine HH1.out.mono ?_; rintro e w9 ⟨rfl, rfl⟩
        go_wp2_with fail
        refine HH2.out.mono ?_; rintro e w9 ⟨rfl, rfl⟩
        go_wp2_with fail
        refine HS1.out.mono ?_; rintro e w9 ⟨rfl, rfl⟩
        go_wp2_with fail
        refine HS2.out.mono ?_; rintro e w9 ⟨rfl, rfl⟩
        generalize r5.1.came = zz at *
        generalize r5.1.shut = zs at *
        go_wp2_with fail
        go_ret
        exact ⟨rfl, World.grownBy.trans D3.out.gr HG8.out⟩

set_option maxRecDepth 100000 in
set_option maxHeartbeats 800000 in
theorem chunks_long (b v : Value) (n : Nat) (a1 : Option Addr) (c1 : Nat) (cs : List UInt8) (W : World) (hb : b = .slice a1 n c1) (hv : Bts W v cs) (hl : 9000 < n) (hm : n ≤ maxLen) :
    Calls Try.prog 6 #[b, v] W fun e w' => e = .returned (.bool true) ∧ W.grownBy w' none := by
  subst hb
  obtain ⟨a2, n2, c2, rfl⟩ := hv.shape
  have hl' : (9000 : Int) < n := by omega
  have hm' : (n : Int) ≤ 9223372036854775807 := by unfold maxLen at hm; omega
  clear hv
  go_enter Try.func6, Try.ntmps6
  go_wp2_with fail
  refine (awake_any _).mono ?_; rintro e w1 ⟨rfl, hg1⟩
  have HG1 := Lib.hid hg1; clear hg1
  go_wp2_with fail
  go_ret
  exact ⟨rfl, HG1.out⟩

theorem chunks_walk (b : Value) (bs : List UInt8) (v : Value) (cs : List UInt8) (W : World) (hb : Bts W b bs) (hv : Bts W v cs) :
    Calls Try.prog 6 #[b, v] W fun e w' => e = .returned (.bool true) ∧ W.grownBy w' none := by
  by_cases hl : bs.length ≤ 9000
  · exact chunks_short b bs v cs W hb hv hl
  · obtain ⟨a1, c1, h, h1, h2⟩ := hb.form
    exact chunks_long b v bs.length a1 c1 cs W h hv (by omega) (by omega)
end Go.Proofs.Ytahmpgaohjopeaa
