/- RecordBack, walked. -/
import Derived.Test.YtahmpgaohjopeaaMsB
import Derived.Test.YtahmpgaohjopeaaLaw
namespace Go.Proofs.Ytahmpgaohjopeaa
open Go.RowKit

/-- A slice of texts that came in. -/
theorem strs_of {W : World} {v : Value} (h : ∃ ss : List ByteArray, (∀ s ∈ ss, s.size ≤ maxLen) ∧ Elems W v 1 ss.length (fun i => .string (ss.getD i ByteArray.empty))) : ∃ xs, Strs W v xs ∧ ∀ x ∈ xs, x.length ≤ maxLen := by
  obtain ⟨ss, h1, h2⟩ := h
  refine ⟨ss.map fun s => s.data.toList, ?_, fun x hx => ?_⟩
  · rcases h2 with ⟨rfl, h0⟩ | ⟨b, o, c, rfl, k1, k2, k3⟩ | ⟨a, rfl, h0⟩
    · exact .inl ⟨rfl, by rw [List.eq_nil_of_length_eq_zero h0]; rfl⟩
    · refine .inr (.inl ⟨b, o, c, by simp, by simpa using k1, k2, fun i hi => ?_⟩)
      simp only [List.length_map] at hi
      rw [k3 i (by omega)]
      simp [txt, List.getD, List.getElem?_eq_getElem hi]
    · exact .inr (.inr ⟨a, rfl, by rw [List.eq_nil_of_length_eq_zero h0]; rfl⟩)
  · obtain ⟨s, hs, rfl⟩ := List.mem_map.1 hx
    simpa using h1 s hs

/-- One reader, and what it told. -/
structure Solo (W w : World) (r : Nat) (v : Value) (s : Ms) (p : Value) (ys : List (List UInt8)) : Prop where
  rs : RS w r v s
  tp : Texts w W.heap.size p ys
  gr : W.grownBy w none
  lo : W.heap.size ≤ r
  lv : ∀ g, v.ownBlock = some g → W.heap.size ≤ g

theorem StpN.low {W w w' : World} {r : Nat} {v v' : Value} (h : StpN w.heap.size w r v w' v') (hw : W.heap.size ≤ w.heap.size) (hv : ∀ g, v.ownBlock = some g → W.heap.size ≤ g) : ∀ g, v'.ownBlock = some g → W.heap.size ≤ g := fun g hg => by
  rcases h.frm with k | k | k
  · rw [k] at hg; cases hg
  · exact hv g (k ▸ hg)
  · exact Nat.le_trans hw (k g hg)

theorem Solo.new {W w w' : World} {r : Nat} {v p : Value} {s : Ms} {ys : List (List UInt8)} (h : Solo W w r v s p ys) (hg : w.grownBy w' none) : Solo W w' r v s p ys :=
  ⟨h.rs.new hg, h.tp.new hg, World.grownBy.trans h.gr hg, h.lo, h.lv⟩

theorem Solo.feed {W w w' : World} {r : Nat} {v v' p l : Value} {s s' : Ms} {ys zs : List (List UInt8)} (h : Solo W w r v s p ys) (hr : RS w' r v' s') (hs : StpN w.heap.size w r v w' v') (hl : Texts w' w.heap.size l zs) : Solo W w' r v' s' p ys ∧ Texts w' W.heap.size l zs :=
  ⟨⟨hr, h.tp.other h.rs hs, hs.grown h.gr h.lo (fun g hg => h.lv g (room_own hg)), h.lo, hs.low h.gr.size h.lv⟩, hl.low h.gr.size⟩

theorem Solo.append {W w w' : World} {r : Nat} {v p p' : Value} {s : Ms} {ys zs : List (List UInt8)} (h : Solo W w r v s p ys) (ha : AppT w W.heap.size p (ys ++ zs) p' w') : Solo W w' r v s p' (ys ++ zs) := by
  obtain ⟨k1, k2, k3⟩ := ha
  exact ⟨h.rs.row h.tp k2, k1, grown_own h.gr k2 (fun n hn => (h.tp.lt n hn).1), h.lo, h.lv⟩

/-- Bytes just made lie apart from a reader that was there. -/
theorem apart_new {w0 w : World} {u v : Value} {r : Nat} {s : Ms} {c bs : List UInt8} (hu : Own w w0.heap.size u bs) (hr : RS w0 r v s) : Apart c u v r w.heap.size := fun _ => by
  refine ⟨fun g hg => (hu.lt g hg).2, fun e => ?_, ?_⟩
  · obtain ⟨_, _, _, _, hb, _, _⟩ := hr
    have := hb.lt
    have := (hu.lt r e).1
    omega
  · rcases hou : u.ownBlock with _ | g
    · exact .inl rfl
    · refine .inr fun e => ?_
      have := (hr.lt g e.symm).1
      have := (hu.lt g hou).1
      omega

theorem code_new : code Ms.new = 0 := rfl

theorem write_short (l : List UInt8) (w : World) (h : l.length ≤ 4096) : Calls Try.prog 18 #[.string ⟨l.toArray⟩] w (Wrote w (fragB l true, 0)) := by
  have h1 := write_any ⟨l.toArray⟩ w (by show l.length ≤ _; omega)
  have h2 : writeR (⟨l.toArray⟩ : ByteArray).data.toList = (fragB l true, 0) := by
    show writeR l = _
    unfold writeR
    rw [if_neg (by omega)]
  rw [h2] at h1
  exact h1

theorem cut_short (l : List UInt8) (n : Nat) (w : World) (h : l.length ≤ 4096) (h0 : 0 < n) (hn : n ≤ 255) : Calls Try.prog 20 #[.string ⟨l.toArray⟩, .int .i64 n] w (Wrote w (cutB n l, 0)) := by
  have h1 := cut_any ⟨l.toArray⟩ n w (by show l.length ≤ _; omega) (by omega)
  have h2 : cutR (⟨l.toArray⟩ : ByteArray).data.toList n = (cutB n l, 0) := by
    show cutR l n = _
    unfold cutR
    rw [if_neg (by omega), if_neg (by omega), Int.toNat_natCast]
  rw [h2] at h1
  exact h1

set_option maxRecDepth 100000 in
set_option maxHeartbeats 3200000 in
theorem back_short (v : Value) (xs : List (List UInt8)) (u : Value) (cs : List UInt8) (W : World) (hv : Strs W v xs) (hx : ∀ x ∈ xs, x.length ≤ maxLen) (hu : Bts W u cs) (hl : xs.length ≤ 20) :
    Calls Try.prog 7 #[v, u] W fun e w' => e = .returned (.bool true) ∧ W.grownBy w' none := by
  obtain ⟨a1, c1, rfl, hc1, hm1⟩ := hv.form
  obtain ⟨a2, c2, rfl, hc2, hm2⟩ := hu.form
  have hl' : (xs.length : Int) ≤ 20 := by omega
  have hcl : (cs.length : Int) ≤ 9223372036854775807 := by unfold maxLen at hm2; omega
  have HV := Lib.hid hv; have HU := Lib.hid hu; have HX := Lib.hid hx
  clear hv hu hx hc1 hc2 hm1 hm2
  go_enter Try.func7, Try.ntmps7
  go_wp2_with fail
  refine (awake_any _).mono ?_; rintro e w1 ⟨rfl, hg1⟩
  have HG1 := Lib.hid hg1; clear hg1
  go_wp2_with fail
  refine (new_any w1).mono ?_; rintro e w2 ⟨r, rfl, hr1, hg2, hle1⟩
  have hg12 := World.grownBy.trans HG1.out hg2
  have HD : Hid (Solo W w2 r (.slice none 0 0) .new (.slice none 0 0) []) := Lib.hid ⟨hr1, Texts.nil _ _, hg12, Nat.le_trans HG1.out.size hle1, fun g hg => by cases hg⟩
  clear hr1 hg2 hle1 hg12 HG1
  go_wp2_with fail
  go_loopw [6, 7] (fun told i w' => ∃ (k : Nat) (v1 : Value), i = .int .i64 k ∧ k ≤ xs.length ∧ Solo W w' r v1 .new told (xs.take k)) (fun _ i _ => xs.length - (intOf i).toNat)
  case atStart => exact ⟨0, _, rfl, Nat.zero_le _, HD.out⟩
  case round =>
    obtain ⟨k, v1, rfl, hk, hs⟩ := hrel
    have htk : (xs.take k).length = k := List.length_take_of_le hk
    obtain ⟨ap, kp, rfl⟩ := hs.tp.form
    rw [htk] at hs ⊢
    have HS := Lib.hid hs
    clear hs
    by_cases hk1 : k < xs.length
    · obtain ⟨gl, ol, cl, el, hcell⟩ := HV.out.at (by omega)
      cases el
      have hc0 := HS.out.gr.cell (hcell k hk1) (by simp)
      have hk2 : (k : Int) < xs.length := by omega
      have hk3 : (0 : Int) ≤ k := by omega
      have hxl := HX.out xs[k] (List.getElem_mem hk1)
      have hxl' : (xs[k].length : Int) ≤ 9223372036854775807 := by unfold maxLen at hxl; omega
      have htk1 : xs.take (k + 1) = xs.take k ++ [xs[k]] := by rw [List.take_succ_eq_append_getElem hk1]
      have HT := Lib.hid htk1; have HTK := Lib.hid htk
      clear hcell htk1 htk hxl
      simp only [txt] at hc0
      generalize xs[k] = x at *
      have hsz : (⟨x.toArray⟩ : ByteArray).size = x.length := rfl
      by_cases hbig : 4096 < x.length
      · have hbig' : (4096 : Int) < x.length := by omega
        go_wp2_with fail
        go_ret
        exact ⟨rfl, HS.out.gr⟩
      · have hbig' : (x.length : Int) ≤ 4096 := by omega
        go_wp2_with fail
        refine (write_short x wr (by omega)).mono ?_; rintro e w3 ⟨vb, rfl, b1, b2⟩
        obtain ⟨ab, nb, kb, rfl⟩ := b1.bts.shape
        have hs3 := HS.out.new b2
        have HS3 := Lib.hid hs3; have OB := Lib.hid b1; have HSB := HS
        have hc3 := b2.cell hc0 (by simp)
        clear b1 hs3
        by_cases hk4 : k < cs.length
        · obtain ⟨gc, oc, cc, ec, hcell, _⟩ := HU.out.at (by omega)
          cases ec
          have hz := (World.grownBy.trans HS.out.gr b2).cell (hcell k hk4) (by simp)
          have hk5 : (k : Int) < cs.length := by omega
          have hz1 := cs[k].toNat_lt
          clear hcell b2
          generalize cs[k].toNat = z at *
          by_cases hz0 : 0 < z
          · have hz2 : (0 : Int) < z := by omega
            have hz3 : (z : Int) ≤ 255 := by omega
            go_wp2_with fail
            have HSC := HS3
            clear OB HS3 HSB
            have hwz : IntKind.i64.wrap (z : Int) = z := by rw [IntKind.wrap_i64]; omega
            go_region_held3 (fun w' => w'.cell? ⟨gl, ol + k, none⟩ = some (.string ⟨x.toArray⟩) ∧ w'.cell? ⟨gc, oc + k, none⟩ = some (.int .u8 z)) (first | go_keep | (exact ⟨hc4, hz4⟩)) (first | (go_at_call 20; refine (cut_short x z _ (by omega) (by omega) (by omega)).mono ?_; rintro e w4 ⟨vc, rfl, j1, j2⟩; have hc4 := j2.cell ((drew_grown _ none).cell hc3 (by simp)) (by simp); have hz4 := j2.cell ((drew_grown _ none).cell hz (by simp)) (by simp); obtain ⟨ac, nc, kc, rfl⟩ := j1.bts.shape; have OB := Lib.hid j1; have HS3 := Lib.hid (HSC.out.new (World.grownBy.trans (drew_grown _ none) j2)); have HSB := Lib.hid (HSC.out.new (drew_grown _ none)); clear j1 j2))
            have hback : Ms.new.run (cutB z x) = (.new, [x]) := cut_back z x hz0 (by omega)
            have hbl : (cutB z x).length ≤ 1000000 := by have := cutB_len z (by omega) x.length x (Nat.le_refl _); omega
            have HF := Lib.hid (feed_any r v1 _ .new (cutB z x) _ HS3.out.rs Ms.Ok.new (by simp only [Ms.new]; omega) (by omega) OB.out.bts (apart_new OB.out HSB.out.rs))
            have HBK := Lib.hid hback
            clear hback hbl
            go_wp2_with fail
            refine HF.out.mono ?_; rintro e w5 hf
            obtain ⟨v5, al5, kl5, rfl, q1, q2, q3⟩ := hf.of HBK.out
            obtain ⟨d1, d2⟩ := HS3.out.feed q1 q2 q3
            have D1 := Lib.hid d1; have D2 := Lib.hid d2; have HH := Lib.hid (held_any r v5 .new w5 q1 (by decide))
            have hcnt : (xs.take k).length + [x].length ≤ 1000000000000 := by rw [HTK.out]; simp; omega
            have HCN := Lib.hid hcnt
            clear d1 d2 q1 q2 q3 hf hcnt HF HBK HS3
            simp only [List.length_cons, List.length_nil, Nat.reduceAdd, show Ms.new.shut = false from rfl, if_neg (Bool.false_ne_true), show Ms.new.came = 0 from rfl, Int.cast_ofNat_Int] at *
            go_wp2_with fail
            refine HH.out.mono ?_; rintro e w6 ⟨rfl, rfl⟩
            go_wp2_with (at_builtin; refine wpList_append_txt rfl _ _ rfl W.heap.size _ _ _ _ rfl rfl D1.out.tp D2.out.strs HCN.out D1.out.gr.size ?_; rintro v7 w7 hap; obtain ⟨a7, k7, rfl⟩ := hap.1.form; have D3 := Lib.hid (D1.out.append hap); clear hap)
            go_roundw
            case rel =>
              refine ⟨k + 1, v5, by go_num, by omega, ?_⟩
              have h := D3.out
              rw [HT.out]
              rw [List.length_append, HTK.out] at *
              exact h
            case measure => simp [intOf]; omega
          · obtain rfl : z = 0 := by omega
            have hback : Ms.new.run (fragB x true) = (.new, [x]) := write_back x (by omega)
            have hbl : (fragB x true).length ≤ 1000000 := by rw [fragB_len]; omega
            have HF := Lib.hid (feed_any r v1 _ .new (fragB x true) _ HS3.out.rs Ms.Ok.new (by simp only [Ms.new]; omega) (by omega) OB.out.bts (apart_new OB.out HSB.out.rs))
            have HBK := Lib.hid hback
            clear hback hbl
            go_wp2_with fail
            refine HF.out.mono ?_; rintro e w5 hf
            obtain ⟨v5, al5, kl5, rfl, q1, q2, q3⟩ := hf.of HBK.out
            obtain ⟨d1, d2⟩ := HS3.out.feed q1 q2 q3
            have D1 := Lib.hid d1; have D2 := Lib.hid d2; have HH := Lib.hid (held_any r v5 .new w5 q1 (by decide))
            have hcnt : (xs.take k).length + [x].length ≤ 1000000000000 := by rw [HTK.out]; simp; omega
            have HCN := Lib.hid hcnt
            clear d1 d2 q1 q2 q3 hf hcnt HF HBK HS3
            simp only [List.length_cons, List.length_nil, Nat.reduceAdd, show Ms.new.shut = false from rfl, if_neg (Bool.false_ne_true), show Ms.new.came = 0 from rfl, Int.cast_ofNat_Int] at *
            go_wp2_with fail
            refine HH.out.mono ?_; rintro e w6 ⟨rfl, rfl⟩
            go_wp2_with (at_builtin; refine wpList_append_txt rfl _ _ rfl W.heap.size _ _ _ _ rfl rfl D1.out.tp D2.out.strs HCN.out D1.out.gr.size ?_; rintro v7 w7 hap; obtain ⟨a7, k7, rfl⟩ := hap.1.form; have D3 := Lib.hid (D1.out.append hap); clear hap)
            go_roundw
            case rel =>
              refine ⟨k + 1, v5, by go_num, by omega, ?_⟩
              have h := D3.out
              rw [HT.out]
              rw [List.length_append, HTK.out] at *
              exact h
            case measure => simp [intOf]; omega
        · have hk5 : (cs.length : Int) ≤ k := by omega
          clear b2
          have hback : Ms.new.run (fragB x true) = (.new, [x]) := write_back x (by omega)
          have hbl : (fragB x true).length ≤ 1000000 := by rw [fragB_len]; omega
          have HF := Lib.hid (feed_any r v1 _ .new (fragB x true) _ HS3.out.rs Ms.Ok.new (by simp only [Ms.new]; omega) (by omega) OB.out.bts (apart_new OB.out HSB.out.rs))
          have HBK := Lib.hid hback
          clear hback hbl
          go_wp2_with fail
          refine HF.out.mono ?_; rintro e w5 hf
          obtain ⟨v5, al5, kl5, rfl, q1, q2, q3⟩ := hf.of HBK.out
          obtain ⟨d1, d2⟩ := HS3.out.feed q1 q2 q3
          have D1 := Lib.hid d1; have D2 := Lib.hid d2; have HH := Lib.hid (held_any r v5 .new w5 q1 (by decide))
          have hcnt : (xs.take k).length + [x].length ≤ 1000000000000 := by rw [HTK.out]; simp; omega
          have HCN := Lib.hid hcnt
          clear d1 d2 q1 q2 q3 hf hcnt HF HBK HS3
          simp only [List.length_cons, List.length_nil, Nat.reduceAdd, show Ms.new.shut = false from rfl, if_neg (Bool.false_ne_true), show Ms.new.came = 0 from rfl, Int.cast_ofNat_Int] at *
          go_wp2_with fail
          refine HH.out.mono ?_; rintro e w6 ⟨rfl, rfl⟩
          go_wp2_with (at_builtin; refine wpList_append_txt rfl _ _ rfl W.heap.size _ _ _ _ rfl rfl D1.out.tp D2.out.strs HCN.out D1.out.gr.size ?_; rintro v7 w7 hap; obtain ⟨a7, k7, rfl⟩ := hap.1.form; have D3 := Lib.hid (D1.out.append hap); clear hap)
          go_roundw
          case rel =>
            refine ⟨k + 1, v5, by go_num, by omega, ?_⟩
            have h := D3.out
            rw [HT.out]
            rw [List.length_append, HTK.out] at *
            exact h
          case measure => simp [intOf]; omega
    · have hk2 : (xs.length : Int) ≤ k := by omega
      obtain rfl : k = xs.length := by omega
      have hs := HS.out
      have ht := hs.tp
      rw [List.take_length] at ht
      go_wp2_with fail
      refine (same_true _ _ _ _ ht.strs (HV.out.new hs.gr)).mono ?_; rintro e w8 ⟨rfl, hg8⟩
      have HG8 := Lib.hid (World.grownBy.trans hs.gr hg8)
      clear hg8 hs ht
      go_wp2_with fail
      go_ret
      exact ⟨rfl, HG8.out⟩

set_option maxRecDepth 100000 in
set_option maxHeartbeats 800000 in
theorem back_long (v u : Value) (n : Nat) (a1 : Option Addr) (c1 : Nat) (cs : List UInt8) (W : World) (hb : v = .slice a1 n c1) (hv : Bts W u cs) (hl : 20 < n) (hm : n ≤ maxLen) :
    Calls Try.prog 7 #[v, u] W fun e w' => e = .returned (.bool true) ∧ W.grownBy w' none := by
  subst hb
  obtain ⟨a2, n2, c2, rfl⟩ := hv.shape
  have hl' : (20 : Int) < n := by omega
  have hm' : (n : Int) ≤ 9223372036854775807 := by unfold maxLen at hm; omega
  clear hv
  go_enter Try.func7, Try.ntmps7
  go_wp2_with fail
  refine (awake_any _).mono ?_; rintro e w1 ⟨rfl, hg1⟩
  have HG1 := Lib.hid hg1; clear hg1
  go_wp2_with fail
  go_ret
  exact ⟨rfl, HG1.out⟩

theorem back_walk (v u : Value) (cs : List UInt8) (W : World) (hv : ∃ ss : List ByteArray, (∀ s ∈ ss, s.size ≤ maxLen) ∧ Elems W v 1 ss.length (fun i => .string (ss.getD i ByteArray.empty))) (hu : Bts W u cs) :
    Calls Try.prog 7 #[v, u] W fun e w' => e = .returned (.bool true) ∧ W.grownBy w' none := by
  obtain ⟨xs, h1, h2⟩ := strs_of hv
  by_cases hl : xs.length ≤ 20
  · exact back_short v xs u cs W h1 h2 hu hl
  · obtain ⟨a1, c1, h, h3, h4⟩ := h1.form
    exact back_long v u xs.length a1 c1 cs W h hu (by omega) (by omega)
end Go.Proofs.Ytahmpgaohjopeaa
