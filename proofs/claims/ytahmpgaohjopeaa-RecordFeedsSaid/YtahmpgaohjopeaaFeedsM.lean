/- RecordFeeds, walked. -/
import Derived.Test.YtahmpgaohjopeaaFeedsW
import Derived.Test.YtahmpgaohjopeaaBack2
import Derived.Test.YtahmpgaohjopeaaSpoil
namespace Go.Proofs.Ytahmpgaohjopeaa
open Go.RowKit

/-- What holds at a round's head. -/
structure FC (W w : World) (r : Nat) (v : Value) (x : Nat) (all : List UInt8) (n : Nat) (pre : List UInt8) : Prop where
  rs : RS w r v (Ms.new.run pre).1
  rx : RefR w x all n (Ms.new.run pre).1.shut
  kn : Knows all pre n
  gr : W.grownBy w none
  lo : W.heap.size ≤ r
  lx : W.heap.size ≤ x
  lv : ∀ g, v.ownBlock = some g → W.heap.size ≤ g

theorem flat_le (bss : List (List UInt8)) (k : Nat) (h : bss.flatten.length ≤ 9000) : (bss.take k).flatten.length ≤ 9000 := by
  have e : bss.flatten = (bss.take k).flatten ++ (bss.drop k).flatten := by rw [← List.flatten_append, List.take_append_drop]
  rw [e, List.length_append] at h
  omega

theorem made_own (w : World) : Own (w.alloc (.cells #[] 5)) w.heap.size (.slice (some ⟨w.heap.size, 0, none⟩) 0 0) [] := World.ownsRow_made w #[] 0 (Nat.le_refl _) (Nat.zero_le _) (by simp)

set_option maxRecDepth 100000 in
set_option maxHeartbeats 3200000 in
theorem feeds_main (v : Value) (bss : List (List UInt8)) (W : World) (hv : BRows W v bss) :
    Calls Try.prog 3 #[v] W fun e w' => e = .returned (.bool true) ∧ W.grownBy w' none := by
  obtain ⟨a1, c1, rfl, h1, h2⟩ := hv.form
  have hl : (bss.length : Int) ≤ 9223372036854775807 := by unfold maxLen at h2; omega
  have HV := Lib.hid hv
  clear hv h1 h2
  go_enter Try.func3, Try.ntmps3
  go_wp2_with fail
  refine (long_any _ bss W HV.out).mono ?_; rintro e w1 ⟨rfl, b, rfl, hb⟩
  cases b with
  | true =>
    go_wp2_with fail
    refine (awake_any _).mono ?_; rintro e w2 ⟨rfl, hg2⟩
    have HG2 := Lib.hid hg2; clear hg2
    go_wp2_with fail
    go_ret
    exact ⟨rfl, HG2.out⟩
  | false =>
    have HFL := Lib.hid (hb rfl); clear hb
    go_wp2_with fail
    refine (new_any W).mono ?_; rintro e w2 ⟨r, rfl, hr, hg, hle⟩
    have hfc : FC W (w2.alloc (.cells #[txt [], .int .i64 0, .bool false] 29)) r (.slice none 0 0) w2.heap.size [] 0 [] :=
      ⟨hr.new (World.grownBy_alloc _ _ _), Blk.made _ _ _, ⟨rfl, rfl, fun _ => rfl, Nat.zero_le _⟩, World.grownBy.trans hg (World.grownBy_alloc _ _ _), hle, hg.size, fun g hg => by cases hg⟩
    have HFC := Lib.hid hfc
    clear hr hg hle hfc
    obtain ⟨x, hx⟩ : ∃ x, x = w2.heap.size := ⟨_, rfl⟩
    rw [← hx] at HFC
    go_wp2_with fail
    rw [← hx]
    clear hx
    go_loopw [5] (fun i w' => ∃ (k : Nat) (v1 : Value) (all : List UInt8) (n : Nat), i = .int .i64 k ∧ k ≤ bss.length ∧ FC W w' r v1 x all n (bss.take k).flatten) (fun i _ => bss.length - (intOf i).toNat)
    case atStart => exact ⟨0, _, [], 0, rfl, Nat.zero_le _, HFC.out⟩
    case round =>
      obtain ⟨k, v1, all, n, rfl, hk, hfc⟩ := hrel
      have HF := Lib.hid hfc; clear hfc
      by_cases hk1 : k < bss.length
      · obtain ⟨b, o, c, e, hcell⟩ := HV.out.at (by omega)
        cases e
        obtain ⟨u, hc, hu⟩ := hcell k hk1
        have hflat := flat_succ bss k hk1
        have hlen : ((bss.take k).flatten ++ bss[k]).length ≤ 9000 := by rw [← hflat]; exact flat_le bss (k + 1) HFL.out
        have hk2 : (k : Int) < bss.length := by omega
        have hk3 : (0 : Int) ≤ k := by omega
        obtain ⟨au, cu, rfl, hu1, hu2⟩ := hu.form
        have HFT := Lib.hid hflat; have HLN := Lib.hid hlen; have HU := Lib.hid hu; have HC := Lib.hid hc
        clear hcell hu hflat hlen hu1 hu2
        generalize bss[k] = ch at *
        generalize hpre : (bss.take k).flatten = pre at *
        clear hpre
        have hc0 := HF.out.gr.cell HC.out (by simp)
        have hca : (wr.alloc (.cells #[] 5)).cell? ⟨b, o + k, none⟩ = some (.slice au ch.length cu) := (World.grownBy_alloc wr _ none).cell hc0 (by simp)
        have HL1 : Hid (([] : List UInt8).length + ch.length ≤ 140737488355328) := Lib.hid (by have := HLN.out; rw [List.length_append] at this; simp; omega)
        clear hc
        go_wp2_with (at_builtin; refine wpList_append_bts rfl _ _ rfl wr.heap.size _ _ _ _ rfl rfl (made_own wr) ((HU.out.new HF.out.gr).new (World.grownBy_alloc wr _ none)) HL1.out (by simp) ?_; rintro v5 w5 ⟨h6, h7, h8⟩; obtain ⟨a5, c5, rfl, _, _⟩ := h6.bts.form; have H6 := Lib.hid h6; have H7 := Lib.hid (grown_own (World.grownBy_alloc wr _ none) h7 (fun m hm => by cases hm; exact Nat.le_refl _)); clear h6 h7 h8)
        have hrlt : r < wr.heap.size := by
          obtain ⟨_, _, _, _, hb', _, _⟩ := HF.out.rs
          exact hb'.lt
        have HRL := Lib.hid hrlt; clear hrlt
        refine (copy_any r v1 _ w5 (HF.out.rs.new H7.out)).mono ?_; rintro e w6 ⟨r2, v2, rfl, hr2, hroom, hg6, hle6, hown6⟩
        have HG6 := Lib.hid (World.grownBy.trans H7.out hg6)
        have HIN6 := Lib.hid (H6.out.new hg6)
        have HILT : Hid (∀ g, (Value.slice a5 ch.length c5).ownBlock = some g → wr.heap.size ≤ g ∧ g < r2) := Lib.hid (fun g hg => ⟨(H6.out.lt g hg).1, Nat.lt_of_lt_of_le (H6.out.lt g hg).2 hle6⟩)
        have HR2 := Lib.hid hr2; have HROOM := Lib.hid hroom; have HOWN6 := Lib.hid hown6; have HLE6 : Hid (wr.heap.size ≤ r2) := Lib.hid (Nat.le_trans H7.out.size hle6)
        clear hr2 hroom hg6 hle6 hown6 H6
        have hrs6 := HF.out.rs.new HG6.out
        have hbound : (Ms.new.run pre).1.came + ch.length ≤ 4611686018427387904 := by
          have h1 := Ms.new_came pre
          have h2 := HLN.out
          rw [List.length_append] at h2
          omega
        have hcl : ch.length ≤ 1000000000000 := by have h2 := HLN.out; rw [List.length_append] at h2; omega
        have HBD := Lib.hid hbound; have HCL := Lib.hid hcl
        clear hbound hcl
        go_wp2_with fail
        refine (feed_any r v1 _ (Ms.new.run pre).1 ch w6 hrs6 (Ms.new_ok pre) HBD.out HCL.out HIN6.out.bts (apart_new HIN6.out HF.out.rs)).mono ?_
        rintro e w7 hf
        obtain ⟨v3, aa, ka, rfl, q1, q2, q3⟩ := hf.any
        have hr7 := hrs6.copy HR2.out q2 (fun e => by have := HLE6.out; have := HRL.out; omega) HOWN6.out
        have hfar : Far (.slice a5 ch.length c5) v1 := by
          rcases hoi : (Value.slice a5 ch.length c5).ownBlock with _ | g
          · exact .inl hoi
          · refine .inr fun e => ?_
            have h1 := (HILT.out g hoi).1
            have h2 := (HF.out.rs.lt g (by rw [← e, hoi])).1
            omega
        have hinr : (Value.slice a5 ch.length c5).ownBlock ≠ some r := fun e => by
          have h1 := (HILT.out r e).1
          have h2 := HRL.out
          omega
        have hin7 := HIN6.out.stp q2 hinr hfar
        have hf3 := hfar.stp q2 (fun g hg => (HIN6.out.lt g hg).2)
        have hx7 := Blk.stp (HF.out.rx.new HG6.out) hrs6 q2 (by decide) (by decide)
        have hg7 := q2.grown (World.grownBy.trans HF.out.gr HG6.out) HF.out.lo (fun g hg => HF.out.lv g (room_own hg))
        have hlv3 := q2.low (World.grownBy.trans HF.out.gr HG6.out).size HF.out.lv
        have HRS7 := Lib.hid q1; have HR27 := Lib.hid hr7; have HIN7 := Lib.hid hin7; have HF3 := Lib.hid hf3; have HX7 := Lib.hid hx7; have HG7 := Lib.hid hg7; have HTA7 := Lib.hid q3; have HSZ7 := Lib.hid q2.size; have HLV3 := Lib.hid hlv3
        clear q1 q2 q3 hf hr7 hfar hinr hin7 hf3 hx7 hg7 hrs6 hlv3
        have hc7 := HG7.out.cell HC.out (by simp)
        go_wp2_with fail
        refine (ref_feed_any x n all pre ch _ w7 HX7.out HF.out.kn (HU.out.new HG7.out) HLN.out).mono ?_
        rintro e w8 ⟨ab, kb, all2, n2, rfl, p1, p2, p3, p4, p5⟩
        have HRS8 := Lib.hid (HRS7.out.row2 HX7.out p4 (by decide) (.inl (by decide))); have HR28 := Lib.hid (HR27.out.row2 HX7.out p4 (by decide) (.inl (by decide)))
        have HIN8 := Lib.hid (HIN7.out.row2 HX7.out p4 (by decide)); have HTA8 := Lib.hid (HTA7.out.row2 HX7.out p4 (by decide))
        have HG8 := Lib.hid (grown_own HG7.out p4 (fun m hm => by cases hm; exact HF.out.lx))
        have HX8 := Lib.hid p1; have HKN := Lib.hid p2; have HB8 := Lib.hid p3; have HBL := Lib.hid p5; have HSZ8 := Lib.hid p4.size
        clear p1 p2 p3 p4 p5
        go_wp2_with fail
        -- GENERATED
        have hin2 : (Value.slice a5 ch.length c5).ownBlock ≠ some r2 := fun e => by
          have h1 := (HILT.out r2 e).2
          omega
        have hf2 : Far (.slice a5 ch.length c5) v2 := by
          rcases hoi : (Value.slice a5 ch.length c5).ownBlock with _ | g
          · exact .inl hoi
          · refine .inr fun e => ?_
            have h1 := (HILT.out g hoi).1
            have h2 := (HF.out.rs.lt g (by rw [← HOWN6.out, ← e, hoi])).1
            omega
        have hap : Apart ch (.slice a5 ch.length c5) v2 r2 w8.heap.size := fun _ => ⟨fun g hg => (HIN8.out.lt g hg).2, hin2, hf2⟩
        refine (feed_any r2 v2 _ (Ms.new.run pre).1 ch w8 HR28.out (Ms.new_ok pre) HBD.out HCL.out HIN8.out.bts hap).mono ?_
        rintro e w9 hf
        obtain ⟨v5, ad, kd, rfl, q1, q2, q3⟩ := hf.any
        have hne : r ≠ r2 := fun e => by have := HLE6.out; have := HRL.out; omega
        have hr9 := HRS8.out.uncopy HR28.out q2 hne (fun g _ => by rw [HROOM.out]; simp)
        have hx9 := Blk.stp HX8.out HR28.out q2 (by decide) (by decide)
        have hin9 := HIN8.out.stp q2 hin2 hf2
        have hta9 := HTA8.out.other HR28.out q2
        have hr2lt : r2 < w7.heap.size := by
          obtain ⟨_, _, _, _, hb', _, _⟩ := HR27.out
          exact hb'.lt
        have hb9 := HB8.out.stp q2 (fun e => by have := HBL.out r2 e; omega) (by
          rcases hoi : (Value.slice ab ((Ms.new.run pre).1.run ch).2.length kb).ownBlock with _ | g
          · exact .inl hoi
          · refine .inr fun e => ?_
            have h1 := HBL.out g hoi
            have h2 := (HF.out.rs.lt g (by rw [← HOWN6.out, ← e, hoi])).1
            have h3 := HLE6.out
            omega)
        have hg9 := q2.grown HG8.out (Nat.le_trans HF.out.gr.size HLE6.out) (fun g hg => by rw [HROOM.out] at hg; cases hg)
        have hcm : ((Ms.new.run pre).1.run ch).1.came ≤ 9223372036854775807 := by
          have h1 := Ms.run_came (Ms.new.run pre).1 ch
          have h2 := HBD.out
          omega
        have hst : (Ms.new.run all2).1 = ((Ms.new.run pre).1.run ch).1 := by
          rw [HKN.out.st, Ms.run_append]
        have hnext : (Ms.new.run (pre ++ ch)).1 = ((Ms.new.run pre).1.run ch).1 := by rw [Ms.run_append]
        have hc9 := hg9.cell HC.out (by simp)
        have hx9' : RefR w9 x all2 n2 (Ms.new.run all2).1.shut := by rw [hst]; exact hx9
        have hall := HKN.out.len
        have hxh := fun w' (hg : w9.grownBy w' none) => ref_held x n2 all2 w' (hx9'.new hg) (by omega)
        rw [hst] at hxh
        have hsab := fun w' (hg : w9.grownBy w' none) => same_true _ _ _ w' (hta9.new hg).strs (hb9.new hg)
        have hsdb := fun w' (hg : w9.grownBy w' none) => same_true _ _ _ w' (q3.new hg).strs (hb9.new hg)
        have hhr := fun w' (hg : w9.grownBy w' none) => held_any r v3 _ w' (hr9.new hg) hcm
        have hhc := fun w' (hg : w9.grownBy w' none) => held_any r2 v5 _ w' (q1.new hg) hcm
        have hsr := fun w' (hg : w9.grownBy w' none) => shut_any r v3 _ w' (hr9.new hg)
        have hkeep : ∀ w', w9.grownBy w' none → (w9.grownBy w' none ∧ w'.cell? ⟨x, 2, none⟩ = some (.bool ((Ms.new.run pre).1.run ch).1.shut) ∧ w'.cell? ⟨b, o + k, none⟩ = some (.slice au ch.length cu) ∧ (convert 30 9 (.slice a5 ch.length c5)).run Try.prog w' = .ok (.string ⟨ch.toArray⟩) w' ∧ (convert 30 9 (.slice au ch.length cu)).run Try.prog w' = .ok (.string ⟨ch.toArray⟩) w') := fun w' hg =>
          ⟨hg, Blk.cell (Blk.new hx9 hg) rfl, hg.cell hc9 (by simp), (hin9.bts.new hg).str und22 und5 und9, ((HU.out.new hg9).new hg).str und22 und5 und9⟩
        have HXH := Lib.hid hxh; have HSAB := Lib.hid hsab; have HSDB := Lib.hid hsdb; have HHR := Lib.hid hhr; have HHC := Lib.hid hhc; have HSR := Lib.hid hsr; have KEEP := Lib.hid hkeep
        have HRS9 := Lib.hid hr9; have HX9 := Lib.hid hx9; have HIN9 := Lib.hid hin9; have HTA9 := Lib.hid hta9; have HG9 := Lib.hid hg9; have HNX := Lib.hid hnext
        clear hxh hsab hsdb hhr hhc hsr hkeep hr9 hx9 hx9' hin9 hta9 hg9 hnext hin2 hf2 hap hne hb9 hst hall hf q1 q2 q3 hr2lt hc9
        generalize hR5 : (Ms.new.run pre).1.run ch = R5 at *
        clear hR5
        generalize hcr : code R5.1 = cde at *
        clear hcr
        generalize R5.1.came = cme at *
        generalize hsv : R5.1.shut = shv at *
        have HSV := Lib.hid hsv; clear hsv
        generalize R5.2.length = cnt at *
        have hcm' : (cme : Int) ≤ 9223372036854775807 := by omega
        clear hcm
        go_wp2_with fail
        refine wp_region_noPanic ?_
        refine wp_region_held_drew (S := fun w' => w9.grownBy w' none ∧ w'.cell? ⟨x, 2, none⟩ = some (.bool shv) ∧ w'.cell? ⟨b, o + k, none⟩ = some (.slice au ch.length cu) ∧ (convert 30 9 (.slice a5 ch.length c5)).run Try.prog w' = .ok (.string ⟨ch.toArray⟩) w' ∧ (convert 30 9 (.slice au ch.length cu)).run Try.prog w' = .ok (.string ⟨ch.toArray⟩) w') (by kernel_rfl) (KEEP.out _ (drew_grown _ _)) (fun hHeld => ?_)
        have HG : Hid (w9.grownBy w9.drew none) := Lib.hid (drew_grown _ _)
        refine wpAnyH_take (i := 0) (v := ?_) (by simp only [List.getElem?_toArray, List.getElem?_cons_zero]; rfl) (by kernel_rfl) (by kernel_rfl) (by kernel_rfl) (fun _ _ _ h => h) (Or.inl ⟨by rfl, ?_⟩) (by assumption) ?_
        rotate_left 1
        · intro w hSw; (try dsimp only at hSw); go_simp; all_goals (with_reducible rfl)
        try simp only [Act.put, List.setIfInBounds_toArray, List.set_cons_zero, List.set_cons_succ]
        refine wpAnyH_take (i := 1) (v := ?_) (by simp only [List.getElem?_toArray, List.getElem?_cons_succ, List.getElem?_cons_zero]; rfl) (by kernel_rfl) (by kernel_rfl) (by kernel_rfl) (fun _ _ _ h => h) (Or.inl ⟨by rfl, ?_⟩) (by assumption) ?_
        rotate_left 1
        · intro w hSw; (try dsimp only at hSw); go_simp; all_goals (with_reducible rfl)
        try simp only [Act.put, List.setIfInBounds_toArray, List.set_cons_zero, List.set_cons_succ]
        refine wpAnyH_take (i := 2) (v := ?_) (by simp only [List.getElem?_toArray, List.getElem?_cons_succ, List.getElem?_cons_zero]; rfl) (by kernel_rfl) (by kernel_rfl) (by kernel_rfl) (fun _ _ _ h => h) (Or.inl ⟨by rfl, ?_⟩) (by assumption) ?_
        rotate_left 1
        · intro w hSw; (try dsimp only at hSw); go_simp; all_goals (with_reducible rfl)
        try simp only [Act.put, List.setIfInBounds_toArray, List.set_cons_zero, List.set_cons_succ]
        refine wpAnyH_take (i := 3) (v := ?_) (by simp only [List.getElem?_toArray, List.getElem?_cons_succ, List.getElem?_cons_zero]; rfl) (by kernel_rfl) (by kernel_rfl) (by kernel_rfl) (fun _ _ _ h => h) (Or.inl ⟨by rfl, ?_⟩) (by assumption) ?_
        rotate_left 1
        · intro w hSw; (try dsimp only at hSw); go_simp; all_goals (with_reducible rfl)
        try simp only [Act.put, List.setIfInBounds_toArray, List.set_cons_zero, List.set_cons_succ]
        refine wpAnyH_take (i := 4) (v := ?_) (by simp only [List.getElem?_toArray, List.getElem?_cons_succ, List.getElem?_cons_zero]; rfl) (by kernel_rfl) (by kernel_rfl) (by kernel_rfl) (fun _ _ _ h => h) (Or.inl ⟨by rfl, ?_⟩) (by assumption) ?_
        rotate_left 1
        · intro w hSw; (try dsimp only at hSw); go_simp; all_goals (with_reducible rfl)
        try simp only [Act.put, List.setIfInBounds_toArray, List.set_cons_zero, List.set_cons_succ]
        refine wpAnyH_take (i := 5) (v := ?_) (by simp only [List.getElem?_toArray, List.getElem?_cons_succ, List.getElem?_cons_zero]; rfl) (by kernel_rfl) (by kernel_rfl) (by kernel_rfl) (fun _ _ _ h => h) (Or.inl ⟨by rfl, ?_⟩) (by assumption) ?_
        rotate_left 1
        · intro w hSw; (try dsimp only at hSw); go_simp; all_goals (with_reducible rfl)
        try simp only [Act.put, List.setIfInBounds_toArray, List.set_cons_zero, List.set_cons_succ]
        refine wpAnyH_take (i := 6) (v := ?_) (by simp only [List.getElem?_toArray, List.getElem?_cons_succ, List.getElem?_cons_zero]; rfl) (by kernel_rfl) (by kernel_rfl) (by kernel_rfl) (fun _ _ _ h => h) (Or.inl ⟨by rfl, ?_⟩) (by assumption) ?_
        rotate_left 1
        · intro w hSw; (try dsimp only at hSw); go_simp; all_goals (with_reducible rfl)
        try simp only [Act.put, List.setIfInBounds_toArray, List.set_cons_zero, List.set_cons_succ]
        refine wpAnyH_take (i := 7) (v := ?_) (by simp only [List.getElem?_toArray, List.getElem?_cons_succ, List.getElem?_cons_zero]; rfl) (by kernel_rfl) (by kernel_rfl) (by kernel_rfl) (fun _ _ _ h => h) (Or.inl ⟨by rfl, ?_⟩) (by assumption) ?_
        rotate_left 1
        · intro w hSw; (try dsimp only at hSw); go_simp; all_goals (with_reducible rfl)
        try simp only [Act.put, List.setIfInBounds_toArray, List.set_cons_zero, List.set_cons_succ]
        refine wpAnyH_take (i := 8) (v := ?_) (by simp only [List.getElem?_toArray, List.getElem?_cons_succ, List.getElem?_cons_zero]; rfl) (by kernel_rfl) (by kernel_rfl) (by kernel_rfl) (fun _ _ _ h => h) (Or.inl ⟨by rfl, ?_⟩) (by assumption) ?_
        rotate_left 1
        · intro w hSw; (try dsimp only at hSw); go_simp; all_goals (with_reducible rfl)
        try simp only [Act.put, List.setIfInBounds_toArray, List.set_cons_zero, List.set_cons_succ]
        refine wpAnyH_take (i := 9) (v := ?_) (by simp only [List.getElem?_toArray, List.getElem?_cons_succ, List.getElem?_cons_zero]; rfl) (by kernel_rfl) (by kernel_rfl) (by kernel_rfl) (fun _ _ _ h => h) (Or.inl ⟨by rfl, ?_⟩) (by assumption) ?_
        rotate_left 1
        · intro w hSw; (try dsimp only at hSw); go_simp; all_goals (with_reducible rfl)
        try simp only [Act.put, List.setIfInBounds_toArray, List.set_cons_zero, List.set_cons_succ]
        refine wpAnyH_take (i := 10) (v := ?_) (by simp only [List.getElem?_toArray, List.getElem?_cons_succ, List.getElem?_cons_zero]; rfl) (by kernel_rfl) (by kernel_rfl) (by kernel_rfl) (fun _ _ _ h => h) (Or.inl ⟨by rfl, ?_⟩) (by assumption) ?_
        rotate_left 1
        · intro w hSw; (try dsimp only at hSw); go_simp; all_goals (with_reducible rfl)
        try simp only [Act.put, List.setIfInBounds_toArray, List.set_cons_zero, List.set_cons_succ]
        refine wpAnyH_ready (rs := [11]) (by kernel_rfl) (by simp) ?_
        refine AllReadyH.cons (by simp only [List.getElem?_toArray, List.getElem?_cons_succ, List.getElem?_cons_zero]; rfl) (fun K hK => ?_) AllReadyH.nil
        go_simp
        refine (HSAB.out _ HG.out).mono ?_; rintro e wq11 ⟨rfl, hgq⟩
        clear hHeld
        replace HG := Lib.hid (World.grownBy.trans HG.out hgq)
        clear hgq
        go_wp2_with fail
        refine hK.out _ _ (KEEP.out _ HG.out) (fun hHeld => ?_)
        clear hK K
        try simp only [Act.put, List.setIfInBounds_toArray, List.set_cons_zero, List.set_cons_succ]
        refine wpAnyH_take (i := 12) (v := ?_) (by simp only [List.getElem?_toArray, List.getElem?_cons_succ, List.getElem?_cons_zero]; rfl) (by kernel_rfl) (by kernel_rfl) (by kernel_rfl) (fun _ _ _ h => h) (Or.inl ⟨by rfl, ?_⟩) (by assumption) ?_
        rotate_left 1
        · intro w hSw; (try dsimp only at hSw); go_simp; all_goals (with_reducible rfl)
        try simp only [Act.put, List.setIfInBounds_toArray, List.set_cons_zero, List.set_cons_succ]
        refine wpAnyH_take (i := 13) (v := ?_) (by simp only [List.getElem?_toArray, List.getElem?_cons_succ, List.getElem?_cons_zero]; rfl) (by kernel_rfl) (by kernel_rfl) (by kernel_rfl) (fun _ _ _ h => h) (Or.inl ⟨by rfl, ?_⟩) (by assumption) ?_
        rotate_left 1
        · intro w hSw; (try dsimp only at hSw); go_simp; all_goals (with_reducible rfl)
        try simp only [Act.put, List.setIfInBounds_toArray, List.set_cons_zero, List.set_cons_succ]
        refine wpAnyH_take (i := 14) (v := ?_) (by simp only [List.getElem?_toArray, List.getElem?_cons_succ, List.getElem?_cons_zero]; rfl) (by kernel_rfl) (by kernel_rfl) (by kernel_rfl) (fun _ _ _ h => h) (Or.inl ⟨by rfl, ?_⟩) (by assumption) ?_
        rotate_left 1
        · intro w hSw; (try dsimp only at hSw); go_simp; all_goals (with_reducible rfl)
        try simp only [Act.put, List.setIfInBounds_toArray, List.set_cons_zero, List.set_cons_succ]
        refine wpAnyH_take (i := 15) (v := ?_) (by simp only [List.getElem?_toArray, List.getElem?_cons_succ, List.getElem?_cons_zero]; rfl) (by kernel_rfl) (by kernel_rfl) (by kernel_rfl) (fun _ _ _ h => h) (Or.inl ⟨by rfl, ?_⟩) (by assumption) ?_
        rotate_left 1
        · intro w hSw; (try dsimp only at hSw); go_simp; all_goals (with_reducible rfl)
        try simp only [Act.put, List.setIfInBounds_toArray, List.set_cons_zero, List.set_cons_succ]
        refine wpAnyH_take (i := 16) (v := ?_) (by simp only [List.getElem?_toArray, List.getElem?_cons_succ, List.getElem?_cons_zero]; rfl) (by kernel_rfl) (by kernel_rfl) (by kernel_rfl) (fun _ _ _ h => h) (Or.inl ⟨by rfl, ?_⟩) (by assumption) ?_
        rotate_left 1
        · intro w hSw; (try dsimp only at hSw); go_simp; all_goals (with_reducible rfl)
        try simp only [Act.put, List.setIfInBounds_toArray, List.set_cons_zero, List.set_cons_succ]
        refine wpAnyH_ready (rs := [17]) (by kernel_rfl) (by simp) ?_
        refine AllReadyH.cons (by simp only [List.getElem?_toArray, List.getElem?_cons_succ, List.getElem?_cons_zero]; rfl) (fun K hK => ?_) AllReadyH.nil
        go_simp
        refine (HSDB.out _ HG.out).mono ?_; rintro e wq17 ⟨rfl, hgq⟩
        clear hHeld
        replace HG := Lib.hid (World.grownBy.trans HG.out hgq)
        clear hgq
        go_wp2_with fail
        refine hK.out _ _ (KEEP.out _ HG.out) (fun hHeld => ?_)
        clear hK K
        try simp only [Act.put, List.setIfInBounds_toArray, List.set_cons_zero, List.set_cons_succ]
        refine wpAnyH_take (i := 18) (v := ?_) (by simp only [List.getElem?_toArray, List.getElem?_cons_succ, List.getElem?_cons_zero]; rfl) (by kernel_rfl) (by kernel_rfl) (by kernel_rfl) (fun _ _ _ h => h) (Or.inl ⟨by rfl, ?_⟩) (by assumption) ?_
        rotate_left 1
        · intro w hSw; (try dsimp only at hSw); go_simp; all_goals (with_reducible rfl)
        try simp only [Act.put, List.setIfInBounds_toArray, List.set_cons_zero, List.set_cons_succ]
        refine wpAnyH_take (i := 19) (v := ?_) (by simp only [List.getElem?_toArray, List.getElem?_cons_succ, List.getElem?_cons_zero]; rfl) (by kernel_rfl) (by kernel_rfl) (by kernel_rfl) (fun _ _ _ h => h) (Or.inl ⟨by rfl, ?_⟩) (by assumption) ?_
        rotate_left 1
        · intro w hSw; (try dsimp only at hSw); go_simp; all_goals (with_reducible rfl)
        try simp only [Act.put, List.setIfInBounds_toArray, List.set_cons_zero, List.set_cons_succ]
        refine wpAnyH_take (i := 20) (v := ?_) (by simp only [List.getElem?_toArray, List.getElem?_cons_succ, List.getElem?_cons_zero]; rfl) (by kernel_rfl) (by kernel_rfl) (by kernel_rfl) (fun _ _ _ h => h) (Or.inl ⟨by rfl, ?_⟩) (by assumption) ?_
        rotate_left 1
        · intro w hSw; (try dsimp only at hSw); go_simp; all_goals (with_reducible rfl)
        try simp only [Act.put, List.setIfInBounds_toArray, List.set_cons_zero, List.set_cons_succ]
        refine wpAnyH_take (i := 21) (v := ?_) (by simp only [List.getElem?_toArray, List.getElem?_cons_succ, List.getElem?_cons_zero]; rfl) (by kernel_rfl) (by kernel_rfl) (by kernel_rfl) (fun _ _ _ h => h) (Or.inl ⟨by rfl, ?_⟩) (by assumption) ?_
        rotate_left 1
        · intro w hSw; (try dsimp only at hSw); go_simp; all_goals (with_reducible rfl)
        try simp only [Act.put, List.setIfInBounds_toArray, List.set_cons_zero, List.set_cons_succ]
        refine wpAnyH_take (i := 23) (v := ?_) (by simp only [List.getElem?_toArray, List.getElem?_cons_succ, List.getElem?_cons_zero]; rfl) (by kernel_rfl) (by kernel_rfl) (by kernel_rfl) (fun _ _ _ h => h) (Or.inl ⟨by rfl, ?_⟩) (by assumption) ?_
        rotate_left 1
        · intro w hSw; (try dsimp only at hSw); go_simp; all_goals (with_reducible rfl)
        try simp only [Act.put, List.setIfInBounds_toArray, List.set_cons_zero, List.set_cons_succ]
        refine wpAnyH_ready (rs := [22]) (by kernel_rfl) (by simp) ?_
        refine AllReadyH.cons (by simp only [List.getElem?_toArray, List.getElem?_cons_succ, List.getElem?_cons_zero]; rfl) (fun K hK => ?_) AllReadyH.nil
        go_simp
        refine (HHR.out _ HG.out).mono ?_; rintro e wq22 ⟨rfl, rfl⟩
        clear hHeld
        go_wp2_with fail
        refine hK.out _ _ (KEEP.out _ HG.out) (fun hHeld => ?_)
        clear hK K
        try simp only [Act.put, List.setIfInBounds_toArray, List.set_cons_zero, List.set_cons_succ]
        refine wpAnyH_ready (rs := [24]) (by kernel_rfl) (by simp) ?_
        refine AllReadyH.cons (by simp only [List.getElem?_toArray, List.getElem?_cons_succ, List.getElem?_cons_zero]; rfl) (fun K hK => ?_) AllReadyH.nil
        go_simp
        refine (HXH.out _ HG.out).mono ?_; rintro e wq24 ⟨rfl, hgq⟩
        clear hHeld
        replace HG := Lib.hid (World.grownBy.trans HG.out hgq)
        clear hgq
        go_wp2_with fail
        refine hK.out _ _ (KEEP.out _ HG.out) (fun hHeld => ?_)
        clear hK K
        try simp only [Act.put, List.setIfInBounds_toArray, List.set_cons_zero, List.set_cons_succ]
        refine wpAnyH_take (i := 25) (v := ?_) (by simp only [List.getElem?_toArray, List.getElem?_cons_succ, List.getElem?_cons_zero]; rfl) (by kernel_rfl) (by kernel_rfl) (by kernel_rfl) (fun _ _ _ h => h) (Or.inl ⟨by rfl, ?_⟩) (by assumption) ?_
        rotate_left 1
        · intro w hSw; (try dsimp only at hSw); go_simp; all_goals (with_reducible rfl)
        try simp only [Act.put, List.setIfInBounds_toArray, List.set_cons_zero, List.set_cons_succ]
        refine wpAnyH_take (i := 26) (v := ?_) (by simp only [List.getElem?_toArray, List.getElem?_cons_succ, List.getElem?_cons_zero]; rfl) (by kernel_rfl) (by kernel_rfl) (by kernel_rfl) (fun _ _ _ h => h) (Or.inl ⟨by rfl, ?_⟩) (by assumption) ?_
        rotate_left 1
        · intro w hSw; (try dsimp only at hSw); go_simp; all_goals (with_reducible rfl)
        try simp only [Act.put, List.setIfInBounds_toArray, List.set_cons_zero, List.set_cons_succ]
        refine wpAnyH_take (i := 27) (v := ?_) (by simp only [List.getElem?_toArray, List.getElem?_cons_succ, List.getElem?_cons_zero]; rfl) (by kernel_rfl) (by kernel_rfl) (by kernel_rfl) (fun _ _ _ h => h) (Or.inl ⟨by rfl, ?_⟩) (by assumption) ?_
        rotate_left 1
        · intro w hSw; (try dsimp only at hSw); go_simp; all_goals (with_reducible rfl)
        try simp only [Act.put, List.setIfInBounds_toArray, List.set_cons_zero, List.set_cons_succ]
        refine wpAnyH_take (i := 28) (v := ?_) (by simp only [List.getElem?_toArray, List.getElem?_cons_succ, List.getElem?_cons_zero]; rfl) (by kernel_rfl) (by kernel_rfl) (by kernel_rfl) (fun _ _ _ h => h) (Or.inl ⟨by rfl, ?_⟩) (by assumption) ?_
        rotate_left 1
        · intro w hSw; (try dsimp only at hSw); go_simp; all_goals (with_reducible rfl)
        try simp only [Act.put, List.setIfInBounds_toArray, List.set_cons_zero, List.set_cons_succ]
        refine wpAnyH_take (i := 30) (v := ?_) (by simp only [List.getElem?_toArray, List.getElem?_cons_succ, List.getElem?_cons_zero]; rfl) (by kernel_rfl) (by kernel_rfl) (by kernel_rfl) (fun _ _ _ h => h) (Or.inl ⟨by rfl, ?_⟩) (by assumption) ?_
        rotate_left 1
        · intro w hSw; (try dsimp only at hSw); go_simp; all_goals (with_reducible rfl)
        try simp only [Act.put, List.setIfInBounds_toArray, List.set_cons_zero, List.set_cons_succ]
        refine wpAnyH_take (i := 31) (v := ?_) (by simp only [List.getElem?_toArray, List.getElem?_cons_succ, List.getElem?_cons_zero]; rfl) (by kernel_rfl) (by kernel_rfl) (by kernel_rfl) (fun _ _ _ h => h) (Or.inl ⟨by rfl, ?_⟩) (by assumption) ?_
        rotate_left 1
        · intro w hSw; (try dsimp only at hSw); go_simp; all_goals (with_reducible rfl)
        try simp only [Act.put, List.setIfInBounds_toArray, List.set_cons_zero, List.set_cons_succ]
        refine wpAnyH_take (i := 32) (v := ?_) (by simp only [List.getElem?_toArray, List.getElem?_cons_succ, List.getElem?_cons_zero]; rfl) (by kernel_rfl) (by kernel_rfl) (by kernel_rfl) (fun _ _ _ h => h) (Or.inl ⟨by rfl, ?_⟩) (by assumption) ?_
        rotate_left 1
        · intro w hSw; (try dsimp only at hSw); go_simp; all_goals (with_reducible rfl)
        try simp only [Act.put, List.setIfInBounds_toArray, List.set_cons_zero, List.set_cons_succ]
        refine wpAnyH_take (i := 33) (v := ?_) (by simp only [List.getElem?_toArray, List.getElem?_cons_succ, List.getElem?_cons_zero]; rfl) (by kernel_rfl) (by kernel_rfl) (by kernel_rfl) (fun _ _ _ h => h) (Or.inl ⟨by rfl, ?_⟩) (by assumption) ?_
        rotate_left 1
        · intro w hSw; (try dsimp only at hSw); go_simp; all_goals (with_reducible rfl)
        try simp only [Act.put, List.setIfInBounds_toArray, List.set_cons_zero, List.set_cons_succ]
        refine wpAnyH_ready (rs := [29]) (by kernel_rfl) (by simp) ?_
        refine AllReadyH.cons (by simp only [List.getElem?_toArray, List.getElem?_cons_succ, List.getElem?_cons_zero]; rfl) (fun K hK => ?_) AllReadyH.nil
        go_simp
        refine (HSR.out _ HG.out).mono ?_; rintro e wq29 ⟨rfl, rfl⟩
        clear hHeld
        go_wp2_with fail
        refine hK.out _ _ (KEEP.out _ HG.out) (fun hHeld => ?_)
        clear hK K
        try simp only [Act.put, List.setIfInBounds_toArray, List.set_cons_zero, List.set_cons_succ]
        refine wpAnyH_take (i := 34) (v := ?_) (by simp only [List.getElem?_toArray, List.getElem?_cons_succ, List.getElem?_cons_zero]; rfl) (by kernel_rfl) (by kernel_rfl) (by kernel_rfl) (fun _ _ _ h => h) (Or.inl ⟨by rfl, ?_⟩) (by assumption) ?_
        rotate_left 1
        · intro w hSw; (try dsimp only at hSw); go_simp; all_goals (with_reducible rfl)
        try simp only [Act.put, List.setIfInBounds_toArray, List.set_cons_zero, List.set_cons_succ]
        refine wpAnyH_take (i := 35) (v := ?_) (by simp only [List.getElem?_toArray, List.getElem?_cons_succ, List.getElem?_cons_zero]; rfl) (by kernel_rfl) (by kernel_rfl) (by kernel_rfl) (fun _ _ _ h => h) (Or.inl ⟨by rfl, ?_⟩) (by assumption) ?_
        rotate_left 1
        · intro w hSw; (try dsimp only at hSw); go_simp; all_goals (with_reducible rfl)
        try simp only [Act.put, List.setIfInBounds_toArray, List.set_cons_zero, List.set_cons_succ]
        refine wpAnyH_take (i := 36) (v := ?_) (by simp only [List.getElem?_toArray, List.getElem?_cons_succ, List.getElem?_cons_zero]; rfl) (by kernel_rfl) (by kernel_rfl) (by kernel_rfl) (fun _ _ _ h => h) (Or.inl ⟨by rfl, ?_⟩) (by assumption) ?_
        rotate_left 1
        · intro w hSw; (try dsimp only at hSw); go_simp; all_goals (with_reducible rfl)
        try simp only [Act.put, List.setIfInBounds_toArray, List.set_cons_zero, List.set_cons_succ]
        refine wpAnyH_take (i := 37) (v := ?_) (by simp only [List.getElem?_toArray, List.getElem?_cons_succ, List.getElem?_cons_zero]; rfl) (by kernel_rfl) (by kernel_rfl) (by kernel_rfl) (fun _ _ _ h => h) (Or.inl ⟨by rfl, ?_⟩) (by assumption) ?_
        rotate_left 1
        · intro w hSw; (try dsimp only at hSw); go_simp; all_goals (with_reducible rfl)
        try simp only [Act.put, List.setIfInBounds_toArray, List.set_cons_zero, List.set_cons_succ]
        refine wpAnyH_take (i := 39) (v := ?_) (by simp only [List.getElem?_toArray, List.getElem?_cons_succ, List.getElem?_cons_zero]; rfl) (by kernel_rfl) (by kernel_rfl) (by kernel_rfl) (fun _ _ _ h => h) (Or.inl ⟨by rfl, ?_⟩) (by assumption) ?_
        rotate_left 1
        · intro w hSw; (try dsimp only at hSw); go_simp; all_goals (with_reducible rfl)
        try simp only [Act.put, List.setIfInBounds_toArray, List.set_cons_zero, List.set_cons_succ]
        refine wpAnyH_ready (rs := [38]) (by kernel_rfl) (by simp) ?_
        refine AllReadyH.cons (by simp only [List.getElem?_toArray, List.getElem?_cons_succ, List.getElem?_cons_zero]; rfl) (fun K hK => ?_) AllReadyH.nil
        go_simp
        refine (HHC.out _ HG.out).mono ?_; rintro e wq38 ⟨rfl, rfl⟩
        clear hHeld
        go_wp2_with fail
        refine hK.out _ _ (KEEP.out _ HG.out) (fun hHeld => ?_)
        clear hK K
        try simp only [Act.put, List.setIfInBounds_toArray, List.set_cons_zero, List.set_cons_succ]
        refine wpAnyH_ready (rs := [40]) (by kernel_rfl) (by simp) ?_
        refine AllReadyH.cons (by simp only [List.getElem?_toArray, List.getElem?_cons_succ, List.getElem?_cons_zero]; rfl) (fun K hK => ?_) AllReadyH.nil
        go_simp
        refine (HXH.out _ HG.out).mono ?_; rintro e wq40 ⟨rfl, hgq⟩
        clear hHeld
        replace HG := Lib.hid (World.grownBy.trans HG.out hgq)
        clear hgq
        go_wp2_with fail
        refine hK.out _ _ (KEEP.out _ HG.out) (fun hHeld => ?_)
        clear hK K
        try simp only [Act.put, List.setIfInBounds_toArray, List.set_cons_zero, List.set_cons_succ]
        refine wpAnyH_take (i := 41) (v := ?_) (by simp only [List.getElem?_toArray, List.getElem?_cons_succ, List.getElem?_cons_zero]; rfl) (by kernel_rfl) (by kernel_rfl) (by kernel_rfl) (fun _ _ _ h => h) (Or.inl ⟨by rfl, ?_⟩) (by assumption) ?_
        rotate_left 1
        · intro w hSw; (try dsimp only at hSw); go_simp; all_goals (with_reducible rfl)
        try simp only [Act.put, List.setIfInBounds_toArray, List.set_cons_zero, List.set_cons_succ]
        refine wpAnyH_take (i := 42) (v := ?_) (by simp only [List.getElem?_toArray, List.getElem?_cons_succ, List.getElem?_cons_zero]; rfl) (by kernel_rfl) (by kernel_rfl) (by kernel_rfl) (fun _ _ _ h => h) (Or.inl ⟨by rfl, ?_⟩) (by assumption) ?_
        rotate_left 1
        · intro w hSw; (try dsimp only at hSw); go_simp; all_goals (with_reducible rfl)
        try simp only [Act.put, List.setIfInBounds_toArray, List.set_cons_zero, List.set_cons_succ]
        refine wpAnyH_take (i := 43) (v := ?_) (by simp only [List.getElem?_toArray, List.getElem?_cons_succ, List.getElem?_cons_zero]; rfl) (by kernel_rfl) (by kernel_rfl) (by kernel_rfl) (fun _ _ _ h => h) (Or.inl ⟨by rfl, ?_⟩) (by assumption) ?_
        rotate_left 1
        · intro w hSw; (try dsimp only at hSw); go_simp; all_goals (with_reducible rfl)
        try simp only [Act.put, List.setIfInBounds_toArray, List.set_cons_zero, List.set_cons_succ]
        refine wpAnyH_take (i := 44) (v := ?_) (by simp only [List.getElem?_toArray, List.getElem?_cons_succ, List.getElem?_cons_zero]; rfl) (by kernel_rfl) (by kernel_rfl) (by kernel_rfl) (fun _ _ _ h => h) (Or.inl ⟨by rfl, ?_⟩) (by assumption) ?_
        rotate_left 1
        · intro w hSw; (try dsimp only at hSw); go_simp; all_goals (with_reducible rfl)
        try simp only [Act.put, List.setIfInBounds_toArray, List.set_cons_zero, List.set_cons_succ]
        refine wpAnyH_take (i := 45) (v := ?_) (by simp only [List.getElem?_toArray, List.getElem?_cons_succ, List.getElem?_cons_zero]; rfl) (by kernel_rfl) (by kernel_rfl) (by kernel_rfl) (fun _ _ _ h => h) (Or.inl ⟨by rfl, ?_⟩) (by assumption) ?_
        rotate_left 1
        · intro w hSw; (try dsimp only at hSw); go_simp; all_goals (with_reducible rfl)
        try simp only [Act.put, List.setIfInBounds_toArray, List.set_cons_zero, List.set_cons_succ]
        refine wpAnyH_take (i := 46) (v := ?_) (by simp only [List.getElem?_toArray, List.getElem?_cons_succ, List.getElem?_cons_zero]; rfl) (by kernel_rfl) (by kernel_rfl) (by kernel_rfl) (fun _ _ _ h => h) (Or.inl ⟨by rfl, ?_⟩) (by assumption) ?_
        rotate_left 1
        · intro w hSw; (try dsimp only at hSw); go_simp; all_goals (with_reducible rfl)
        try simp only [Act.put, List.setIfInBounds_toArray, List.set_cons_zero, List.set_cons_succ]
        refine wpAnyH_take (i := 47) (v := ?_) (by simp only [List.getElem?_toArray, List.getElem?_cons_succ, List.getElem?_cons_zero]; rfl) (by kernel_rfl) (by kernel_rfl) (by kernel_rfl) (fun _ _ _ h => h) (Or.inl ⟨by rfl, ?_⟩) (by assumption) ?_
        rotate_left 1
        · intro w hSw; (try dsimp only at hSw); go_simp; all_goals (with_reducible rfl)
        try simp only [Act.put, List.setIfInBounds_toArray, List.set_cons_zero, List.set_cons_succ]
        refine wpAnyH_take (i := 48) (v := ?_) (by simp only [List.getElem?_toArray, List.getElem?_cons_succ, List.getElem?_cons_zero]; rfl) (by kernel_rfl) (by kernel_rfl) (by kernel_rfl) (fun _ _ _ h => h) (Or.inl ⟨by rfl, ?_⟩) (by assumption) ?_
        rotate_left 1
        · intro w hSw; (try dsimp only at hSw); go_simp; all_goals (with_reducible rfl)
        try simp only [Act.put, List.setIfInBounds_toArray, List.set_cons_zero, List.set_cons_succ]
        refine wpAnyH_take (i := 49) (v := ?_) (by simp only [List.getElem?_toArray, List.getElem?_cons_succ, List.getElem?_cons_zero]; rfl) (by kernel_rfl) (by kernel_rfl) (by kernel_rfl) (fun _ _ _ h => h) (Or.inl ⟨by rfl, ?_⟩) (by assumption) ?_
        rotate_left 1
        · intro w hSw; (try dsimp only at hSw); go_simp; all_goals (with_reducible rfl)
        try simp only [Act.put, List.setIfInBounds_toArray, List.set_cons_zero, List.set_cons_succ]
        refine wpAnyH_take (i := 50) (v := ?_) (by simp only [List.getElem?_toArray, List.getElem?_cons_succ, List.getElem?_cons_zero]; rfl) (by kernel_rfl) (by kernel_rfl) (by kernel_rfl) (fun _ _ _ h => h) (Or.inl ⟨by rfl, ?_⟩) (by assumption) ?_
        rotate_left 1
        · intro w hSw; (try dsimp only at hSw); go_simp; all_goals (with_reducible rfl)
        try simp only [Act.put, List.setIfInBounds_toArray, List.set_cons_zero, List.set_cons_succ]
        refine wpAnyH_take (i := 51) (v := ?_) (by simp only [List.getElem?_toArray, List.getElem?_cons_succ, List.getElem?_cons_zero]; rfl) (by kernel_rfl) (by kernel_rfl) (by kernel_rfl) (fun _ _ _ h => h) (Or.inl ⟨by rfl, ?_⟩) (by assumption) ?_
        rotate_left 1
        · intro w hSw; (try dsimp only at hSw); go_simp; all_goals (with_reducible rfl)
        try simp only [Act.put, List.setIfInBounds_toArray, List.set_cons_zero, List.set_cons_succ]
        refine wpAnyH_take (i := 52) (v := ?_) (by simp only [List.getElem?_toArray, List.getElem?_cons_succ, List.getElem?_cons_zero]; rfl) (by kernel_rfl) (by kernel_rfl) (by kernel_rfl) (fun _ _ _ h => h) (Or.inl ⟨by rfl, ?_⟩) (by assumption) ?_
        rotate_left 1
        · intro w hSw; (try dsimp only at hSw); go_simp; all_goals (with_reducible rfl)
        try simp only [Act.put, List.setIfInBounds_toArray, List.set_cons_zero, List.set_cons_succ]
        refine wpAnyH_done (by kernel_rfl) ?_ _
        refine NoPanic.normal ?_
        have hsp : SP W wq40 r v3 R5.1 x #[txt all2, .int .i64 n2, .bool shv] (.slice a5 ch.length c5) (.slice aa cnt ka) ch.length cnt := ⟨HRS9.out.new HG.out, Blk.new HX9.out HG.out, (HIN9.out.writable.new HG.out).low HF.out.gr.size, HTA9.out.writable HG.out (Nat.le_trans HF.out.gr.size HG6.out.size), World.grownBy.trans HG9.out HG.out, HF3.out⟩
        have HSP := Lib.hid hsp
        have hchl : (ch.length : Int) ≤ 9223372036854775807 := by have := HCL.out; omega
        have hcnl : (cnt : Int) ≤ 9223372036854775807 := HTA9.out.short
        have HNR : Hid (∀ w', RS w' r v3 R5.1 → RS w' r v3 (Ms.new.run (bss.take (k + 1)).flatten).1) := Lib.hid (fun w' h => by rw [HFT.out, HNX.out]; exact h)
        have HNB : Hid (∀ w', Blk w' x 29 #[txt all2, .int .i64 n2, .bool shv] → RefR w' x all2 n2 (Ms.new.run (bss.take (k + 1)).flatten).1.shut) := Lib.hid (fun w' h => by rw [HFT.out, HNX.out, HSV.out]; exact h)
        have HNK : Hid (Knows all2 (bss.take (k + 1)).flatten n2) := Lib.hid (by rw [HFT.out]; exact HKN.out)
        have HLO := Lib.hid HF.out.lo; have HLX := Lib.hid HF.out.lx
        clear hHeld hsp HG HRS9 HX9 HIN9 HTA9 HG9 HXH HHR HHC HSR KEEP HSAB HSDB HTA7 HTA8 HB8 HBL HRS7 HRS8 HNX HSV HKN HX8 HR28 HIN8 HG8 HSZ8 HR27 HIN7 HF3 HX7 HG7 HSZ7 hc7 hc0 hca HL1 H7 HRL HG6 HIN6 HILT HR2 HROOM HOWN6 HLE6 HBD HCL HF HFT HLN HU HC HFC
        go_wp2_with fail
        go_loopw [14] (fun i w' => ∃ q : Nat, i = .int .i64 q ∧ q ≤ ch.length ∧ SP W w' r v3 R5.1 x #[txt all2, .int .i64 n2, .bool shv] (.slice a5 ch.length c5) (.slice aa cnt ka) ch.length cnt) (fun i _ => ch.length - (intOf i).toNat)
        case atStart => exact ⟨0, rfl, Nat.zero_le _, HSP.out⟩
        case round =>
          obtain ⟨q, rfl, hq, hsp⟩ := hrel
          have HSP2 := Lib.hid hsp; clear hsp
          by_cases hq1 : q < ch.length
          · obtain ⟨g, c, cur, e, hb, hcs, hge⟩ := HSP2.out.wu (by omega)
            cases e
            have hcl := hb.cell (i := q) (Array.getElem?_eq_getElem (show q < cur.size by omega))
            have hfz := hb.frozen q
            have hq2 : (q : Int) < ch.length := by omega
            have hq3 : (0 : Int) ≤ q := by omega
            have HB := Lib.hid hb
            clear hb
            go_wp2_with fail
            go_roundw
            case rel => exact ⟨q + 1, by go_num, by omega, HSP2.out.setU HB.out hge (HB.out.set q _) (by simpa using hcs) (Lib.grownBy_setB (World.grownBy.refl _ _) _ _)⟩
            case measure => simp [intOf]; omega
          · have hq2 : (ch.length : Int) ≤ q := by omega
            go_wp2_with fail
            go_loopw [15] (fun i w' => ∃ q : Nat, i = .int .i64 q ∧ q ≤ cnt ∧ SP W w' r v3 R5.1 x #[txt all2, .int .i64 n2, .bool shv] (.slice none 0 0) (.slice aa cnt ka) 0 cnt) (fun i _ => cnt - (intOf i).toNat)
            case atStart => exact ⟨0, rfl, Nat.zero_le _, HSP2.out.done⟩
            case round =>
              obtain ⟨q, rfl, hq, hsp⟩ := hrel
              have HSP3 := Lib.hid hsp; clear hsp
              by_cases hq1 : q < cnt
              · obtain ⟨g, c, cur, e, hb, hcs, hge⟩ := HSP3.out.wt (by omega)
                cases e
                have hcl := hb.cell (i := q) (Array.getElem?_eq_getElem (show q < cur.size by omega))
                have hfz := hb.frozen q
                have hq2 : (q : Int) < cnt := by omega
                have hq3 : (0 : Int) ≤ q := by omega
                have HB := Lib.hid hb
                clear hb
                go_wp2_with fail
                go_roundw
                case rel => exact ⟨q + 1, by go_num, by omega, HSP3.out.setT HB.out hge (HB.out.set q _) (by simpa using hcs) (Lib.grownBy_setB (World.grownBy.refl _ _) _ _)⟩
                case measure => simp [intOf]; omega
              · have hq2 : (cnt : Int) ≤ q := by omega
                go_wp2_with fail
                go_roundw
                case rel => exact ⟨k + 1, v3, all2, n2, by go_num, by omega, ⟨HNR.out _ HSP3.out.rs, HNB.out _ HSP3.out.bx, HNK.out, HSP3.out.gr, HLO.out, HLX.out, HLV3.out⟩⟩
                case measure => simp [intOf]; omega
      · have hk2 : (bss.length : Int) ≤ k := by omega
        go_wp2_with fail
        refine (awake_any _).mono ?_; rintro e w3 ⟨rfl, hg3⟩
        have HG3 := Lib.hid (World.grownBy.trans HF.out.gr hg3); clear hg3
        go_wp2_with fail
        go_ret
        exact ⟨rfl, HG3.out⟩
end Go.Proofs.Ytahmpgaohjopeaa
