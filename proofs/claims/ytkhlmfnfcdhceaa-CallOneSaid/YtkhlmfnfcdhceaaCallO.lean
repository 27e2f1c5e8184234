/- CallBack, walked. -/
import Derived.Test.YtkhlmfnfcdhceaaCallN
import Derived.Deep.DeepCutAuto
namespace Go.Proofs.Ytkhlmfnfcdhceaa
open Go.RowKit

theorem cWrite_len (h : Hd) : (cWrite h).1.length ≤ h.b.length + 24 := by
  unfold cWrite
  split
  · simp
  · split
    · simp
    · show (hdB h).length ≤ _
      rw [hdB_len]; omega
theorem cTell_len (a : An) : (cTell a).1.length ≤ a.b.length + 12 := by
  unfold cTell
  split
  · show (anB a).length ≤ _
    rw [anB_len]; omega
  · simp

theorem isW_isI {n : Int} (h : isW n) : isI n := by unfold isW at h; unfold isI; omega

theorem read_wr (l : List UInt8) : (cRead l).2 = 0 → cWrite (cRead l).1 = (l, 0) ∧ (cHear l).2 = 4 ∧ isI (cRead l).1.x ∧ isI (cRead l).1.p ∧ (cRead l).1.b.length ≤ maxLen := fun h => by
  have e : cRead l = ((cRead l).1, 0) := Prod.ext rfl h
  obtain ⟨h1, h2⟩ := read_back e
  obtain ⟨_, _, h3, h4, _, h5⟩ := cWrite_ok h1
  exact ⟨h1, h2, isW_isI h3, isW_isI h4, by unfold maxLen; omega⟩
theorem hear_tl (l : List UInt8) (hs : l.length ≤ 10000) : (cHear l).2 = 0 → cTell (cHear l).1 = (l, 0) ∧ (cRead l).2 = 4 ∧ isI (cHear l).1.x ∧ (cHear l).1.b.length ≤ 1000000000 := fun h => by
  have e : cHear l = ((cHear l).1, 0) := Prod.ext rfl h
  obtain ⟨h1, h2⟩ := hear_back e
  obtain ⟨h3, h4⟩ := cTell_ok h1
  have h5 := anB_len (cHear l).1
  rw [← h3] at h5
  exact ⟨h1, h2, isW_isI h4.2.1, by omega⟩

set_option maxRecDepth 10000 in
set_option maxHeartbeats 8000000 in
theorem cback_short (c x p y f : Int) (b d l : List UInt8) (W : World) (hx : isI x) (hp : isI p) (hy : isI y) (hb : b.length ≤ 10000) (hd : d.length ≤ 10000) (hs : l.length ≤ 10000) :
    Calls Try.prog 6 #[hdV ⟨c, x, p, b⟩, anV ⟨y, f, d⟩, .string ⟨l.toArray⟩] W (OK1 W) := by
  have HW1 := Lib.hid (fun w => Write_any ⟨c, x, p, b⟩ w hx hp (by show b.length ≤ maxLen; unfold maxLen; omega))
  have HT1 := Lib.hid (fun w => Tell_any ⟨y, f, d⟩ w hy (by show d.length ≤ _; omega))
  have q1 : (b.length : Int) ≤ 10000 := by omega
  have q2 : (d.length : Int) ≤ 10000 := by omega
  have q3 : (l.length : Int) ≤ 10000 := by omega
  have HLW : Hid ((cWrite ⟨c, x, p, b⟩).1.length ≤ 1000000) := Lib.hid (by have := cWrite_len ⟨c, x, p, b⟩; dsimp at this; omega)
  have HLT : Hid ((cTell ⟨y, f, d⟩).1.length ≤ 1000000) := Lib.hid (by have := cTell_len ⟨y, f, d⟩; dsimp at this; omega)
  have HB1 := Lib.hid (fun (t : List UInt8) (e : cWrite ⟨c, x, p, b⟩ = (t, 0)) => write_back e)
  have HB2 := Lib.hid (fun (t : List UInt8) (e : cTell ⟨y, f, d⟩ = (t, 0)) => tell_back e)
  have HR3 := Lib.hid (fun w => Read_l l w (by omega))
  have HH3 := Lib.hid (fun w => Hear_l l w (by omega))
  have HB3 := Lib.hid (read_wr l)
  have HB4 := Lib.hid (hear_tl l hs)
  clear hx hp hy hb hd hs
  generalize cWrite ⟨c, x, p, b⟩ = r1 at *
  generalize cTell ⟨y, f, d⟩ = r2 at *
  obtain ⟨t1, e1⟩ := r1
  obtain ⟨t2, e2⟩ := r2
  generalize cRead l = r3 at *
  generalize cHear l = r4 at *
  obtain ⟨⟨c3, x3, p3, b3⟩, e3⟩ := r3
  obtain ⟨⟨y4, f4, d4⟩, e4⟩ := r4
  dsimp only at HB3 HB4
  unfold hdV txt at HW1
  unfold anV txt at HT1
  unfold hdV anV txt
  go_enter Try.func6, Try.ntmps6
  go_wp2_with fail
  have hb := (Blk.made W 42 #[.int .i64 c, .int .i64 x, .int .i64 p, .string ⟨b.toArray⟩]).new (World.grownBy_alloc _ (.cells #[.int .i64 y, .int .i64 f, .string ⟨d.toArray⟩] 43) none)
  have hb2 := Blk.made (W.alloc (.cells #[.int .i64 c, .int .i64 x, .int .i64 p, .string ⟨b.toArray⟩] 42)) 43 #[.int .i64 y, .int .i64 f, .string ⟨d.toArray⟩]
  rw [show (W.alloc (.cells #[.int .i64 c, .int .i64 x, .int .i64 p, .string ⟨b.toArray⟩] 42)).heap.size = W.heap.size + 1 by simp] at hb2
  have B_h := Lib.hid hb
  have B_a := Lib.hid hb2
  have G := Lib.hid (World.grownBy.trans (World.grownBy_alloc W (.cells #[.int .i64 c, .int .i64 x, .int .i64 p, .string ⟨b.toArray⟩] 42) none) (World.grownBy_alloc _ (.cells #[.int .i64 y, .int .i64 f, .string ⟨d.toArray⟩] 43) none))
  clear hb hb2
  generalize (W.alloc (.cells #[.int .i64 c, .int .i64 x, .int .i64 p, .string ⟨b.toArray⟩] 42)).alloc (.cells #[.int .i64 y, .int .i64 f, .string ⟨d.toArray⟩] 43) = w0 at *
  generalize W.heap.size = K at *
  refine (works_any _).mono ?_; rintro e w1 ⟨rfl, g1⟩
  replace G := Lib.hid (World.grownBy.trans G.out g1)
  replace B_h := Lib.hid (B_h.out.new g1)
  replace B_a := Lib.hid (B_a.out.new g1)
  clear g1
  have c_h_0 := B_h.out.cell (i := 0) (x := .int .i64 c) rfl
  have c_h_1 := B_h.out.cell (i := 1) (x := .int .i64 x) rfl
  have c_h_2 := B_h.out.cell (i := 2) (x := .int .i64 p) rfl
  have c_h_3 := B_h.out.cell (i := 3) (x := .string ⟨b.toArray⟩) rfl
  have c_a_0 := B_a.out.cell (i := 0) (x := .int .i64 y) rfl
  have c_a_1 := B_a.out.cell (i := 1) (x := .int .i64 f) rfl
  have c_a_2 := B_a.out.cell (i := 2) (x := .string ⟨d.toArray⟩) rfl
  have c_a2_0 := (B_a.out.new (World.grownBy_alloc w1 (.cells #[.int .i64 c, .int .i64 x, .int .i64 p, .string ⟨b.toArray⟩] 25) none)).cell (i := 0) (x := .int .i64 y) rfl
  have c_a2_1 := (B_a.out.new (World.grownBy_alloc w1 (.cells #[.int .i64 c, .int .i64 x, .int .i64 p, .string ⟨b.toArray⟩] 25) none)).cell (i := 1) (x := .int .i64 f) rfl
  have c_a2_2 := (B_a.out.new (World.grownBy_alloc w1 (.cells #[.int .i64 c, .int .i64 x, .int .i64 p, .string ⟨b.toArray⟩] 25) none)).cell (i := 2) (x := .string ⟨d.toArray⟩) rfl
  go_wp2_with fail
  clear c_h_0 c_h_1 c_h_2 c_h_3 c_a_0 c_a_1 c_a_2 c_a2_0 c_a2_1 c_a2_2
  have hb := (Blk.made w1 25 #[.int .i64 c, .int .i64 x, .int .i64 p, .string ⟨b.toArray⟩]).new (World.grownBy_alloc _ (.cells #[.int .i64 y, .int .i64 f, .string ⟨d.toArray⟩] 38) none)
  have hb2 := Blk.made (w1.alloc (.cells #[.int .i64 c, .int .i64 x, .int .i64 p, .string ⟨b.toArray⟩] 25)) 38 #[.int .i64 y, .int .i64 f, .string ⟨d.toArray⟩]
  rw [show (w1.alloc (.cells #[.int .i64 c, .int .i64 x, .int .i64 p, .string ⟨b.toArray⟩] 25)).heap.size = w1.heap.size + 1 by simp] at hb2
  have B_x := Lib.hid hb
  have B_y := Lib.hid hb2
  replace G := Lib.hid (World.grownBy.trans G.out (World.grownBy.trans (World.grownBy_alloc w1 (.cells #[.int .i64 c, .int .i64 x, .int .i64 p, .string ⟨b.toArray⟩] 25) none) (World.grownBy_alloc _ (.cells #[.int .i64 y, .int .i64 f, .string ⟨d.toArray⟩] 38) none)))
  clear hb hb2 B_h B_a
  generalize (w1.alloc (.cells #[.int .i64 c, .int .i64 x, .int .i64 p, .string ⟨b.toArray⟩] 25)).alloc (.cells #[.int .i64 y, .int .i64 f, .string ⟨d.toArray⟩] 38) = u0 at *
  generalize w1.heap.size = K2 at *
  refine (HW1.out _).mono ?_; rintro e w2 ⟨rfl, g1⟩
  replace G := Lib.hid (World.grownBy.trans G.out g1)
  replace B_x := Lib.hid (B_x.out.new g1)
  replace B_y := Lib.hid (B_y.out.new g1)
  clear g1
  try unfold txt
  go_upto_if 70 with fail
  go_cut [] (fun wx => Hid (W.grownBy wx none) ∧ Hid (Blk wx (K2 + 1) 38 #[.int .i64 y, .int .i64 f, .string ⟨d.toArray⟩]))
  case first =>
    by_cases he : e1 = 0
    · subst he
      obtain ⟨hh4, hrd⟩ := HB1.out t1 rfl
      have HRD := Lib.hid (fun w => Read_l t1 w (by have := HLW.out; omega))
      have HHD := Lib.hid (fun w => Hear_l t1 w (by have := HLW.out; omega))
      generalize cHear t1 = ah at *
      obtain ⟨⟨ay, af, ad⟩, a4⟩ := ah
      dsimp only at hh4
      subst hh4
      clear HB1 HB2 HT1 HLW HLT HW1
      by_cases hp19 : p < 19
      · rw [if_pos hp19] at hrd
        rw [hrd] at HRD
        have hp1 : decide (p < 19) = true := by simp; omega
        have hp2 : decide (19 ≤ p) = false := by simp; omega
        clear hrd hp19
        go_wp2_with fail
        refine (HRD.out _).mono ?_; rintro e w3 ⟨rfl, g1⟩
        replace G := Lib.hid (World.grownBy.trans G.out g1)
        replace B_x := Lib.hid (B_x.out.new g1)
        replace B_y := Lib.hid (B_y.out.new g1)
        clear g1
        try unfold hdV txt
        go_wp2_with fail
        have hb := Blk.made w3 25 #[.int .i64 c, .int .i64 x, .int .i64 p, .string ⟨b.toArray⟩]
        have ga := World.grownBy_alloc w3 (.cells #[.int .i64 c, .int .i64 x, .int .i64 p, .string ⟨b.toArray⟩] 25) none
        have hle := G.out.size
        have n_x := B_x.out.lt
        have n_y := B_y.out.lt
        replace G := Lib.hid (World.grownBy.trans G.out ga)
        replace B_x := Lib.hid (B_x.out.new ga)
        replace B_y := Lib.hid (B_y.out.new ga)
        generalize w3.alloc (.cells #[.int .i64 c, .int .i64 x, .int .i64 p, .string ⟨b.toArray⟩] 25) = w4 at *
        generalize w3.heap.size = K_rb at *
        have N_x_rb := Lib.hid n_x
        clear n_x
        have N_y_rb := Lib.hid n_y
        clear n_y
        have B_rb := Lib.hid hb
        have E_rb := Lib.hid hle
        clear hb ga hle
        refine (HHD.out _).mono ?_; rintro e w5 ⟨rfl, g1⟩
        replace G := Lib.hid (World.grownBy.trans G.out g1)
        replace B_x := Lib.hid (B_x.out.new g1)
        replace B_y := Lib.hid (B_y.out.new g1)
        replace B_rb := Lib.hid (B_rb.out.new g1)
        clear g1
        try unfold anV txt
        go_upto_region 9 with fail
        have hb := Blk.made w5 38 #[.int .i64 ay, .int .i64 af, .string ⟨ad.toArray⟩]
        have ga := World.grownBy_alloc w5 (.cells #[.int .i64 ay, .int .i64 af, .string ⟨ad.toArray⟩] 38) none
        have hle := G.out.size
        have n_x := B_x.out.lt
        have n_y := B_y.out.lt
        have n_rb := B_rb.out.lt
        replace G := Lib.hid (World.grownBy.trans G.out ga)
        replace B_x := Lib.hid (B_x.out.new ga)
        replace B_y := Lib.hid (B_y.out.new ga)
        replace B_rb := Lib.hid (B_rb.out.new ga)
        generalize w5.alloc (.cells #[.int .i64 ay, .int .i64 af, .string ⟨ad.toArray⟩] 38) = w6 at *
        generalize w5.heap.size = K_ra at *
        have N_x_ra := Lib.hid n_x
        clear n_x
        have N_y_ra := Lib.hid n_y
        clear n_y
        have N_rb_ra := Lib.hid n_rb
        clear n_rb
        clear hb ga hle
        have c_x_0 := B_x.out.cell (i := 0) (x := .int .i64 c) rfl
        have c_x_1 := B_x.out.cell (i := 1) (x := .int .i64 x) rfl
        have c_x_2 := B_x.out.cell (i := 2) (x := .int .i64 p) rfl
        have c_x_3 := B_x.out.cell (i := 3) (x := .string ⟨b.toArray⟩) rfl
        go_upto_region 10 with fail
        clear c_x_0 c_x_1 c_x_2 c_x_3
        have hb := Blk.made w6 25 #[.int .i64 c, .int .i64 x, .int .i64 p, .string ⟨b.toArray⟩]
        have ga := World.grownBy_alloc w6 (.cells #[.int .i64 c, .int .i64 x, .int .i64 p, .string ⟨b.toArray⟩] 25) none
        have hle := G.out.size
        have n_x := B_x.out.lt
        have n_y := B_y.out.lt
        have n_rb := B_rb.out.lt
        replace G := Lib.hid (World.grownBy.trans G.out ga)
        replace B_x := Lib.hid (B_x.out.new ga)
        replace B_y := Lib.hid (B_y.out.new ga)
        replace B_rb := Lib.hid (B_rb.out.new ga)
        generalize w6.alloc (.cells #[.int .i64 c, .int .i64 x, .int .i64 p, .string ⟨b.toArray⟩] 25) = w7 at *
        generalize w6.heap.size = K_bare at *
        have N_x_bare := Lib.hid n_x
        clear n_x
        have N_y_bare := Lib.hid n_y
        clear n_y
        have N_rb_bare := Lib.hid n_rb
        clear n_rb
        have B_bare := Lib.hid hb
        have E_bare := Lib.hid hle
        clear hb ga hle
        have c_bare_0 := B_bare.out.cell (i := 0) (x := .int .i64 c) rfl
        have c_bare_1 := B_bare.out.cell (i := 1) (x := .int .i64 x) rfl
        have c_bare_2 := B_bare.out.cell (i := 2) (x := .int .i64 p) rfl
        have c_bare_3 := B_bare.out.cell (i := 3) (x := .string ⟨b.toArray⟩) rfl
        have f_bare_3 := B_bare.out.frozen 3
        go_upto_region 11 with fail
        clear c_bare_0 c_bare_1 c_bare_2 c_bare_3 f_bare_3
        have gs := Lib.grownBy_setB (World.grownBy.refl w7 (some K_bare)) 3 (.string ⟨#[]⟩)
        replace B_x := Lib.hid (B_x.out.kept gs (by have := N_x_bare.out; simp; omega))
        replace B_y := Lib.hid (B_y.out.kept gs (by have := N_y_bare.out; simp; omega))
        replace B_rb := Lib.hid (B_rb.out.kept gs (by have := N_rb_bare.out; simp; omega))
        replace B_bare := Lib.hid (B_bare.out.set 3 (.string ⟨#[]⟩))
        simp only [List.setIfInBounds_toArray, List.set_cons_succ, List.set_cons_zero] at B_bare
        replace G := Lib.hid (grown_own G.out gs (fun n hn => by cases hn; exact E_bare.out))
        clear gs
        generalize w7.setCell ⟨K_bare, 3, none⟩ (.string ⟨#[]⟩) = w8 at *
        have c_x_0 := B_x.out.cell (i := 0) (x := .int .i64 c) rfl
        have c_x_1 := B_x.out.cell (i := 1) (x := .int .i64 x) rfl
        have c_x_2 := B_x.out.cell (i := 2) (x := .int .i64 p) rfl
        have c_x_3 := B_x.out.cell (i := 3) (x := .string ⟨b.toArray⟩) rfl
        have c_rb_0 := B_rb.out.cell (i := 0) (x := .int .i64 c) rfl
        have c_rb_1 := B_rb.out.cell (i := 1) (x := .int .i64 x) rfl
        have c_rb_2 := B_rb.out.cell (i := 2) (x := .int .i64 p) rfl
        have c_rb_3 := B_rb.out.cell (i := 3) (x := .string ⟨b.toArray⟩) rfl
        have c_bare_0 := B_bare.out.cell (i := 0) (x := .int .i64 c) rfl
        have c_bare_1 := B_bare.out.cell (i := 1) (x := .int .i64 x) rfl
        have c_bare_2 := B_bare.out.cell (i := 2) (x := .int .i64 p) rfl
        have c_bare_3 := B_bare.out.cell (i := 3) (x := .string ⟨#[]⟩) rfl
        go_wp2_with fail
        clear c_x_0 c_x_1 c_x_2 c_x_3 c_rb_0 c_rb_1 c_rb_2 c_rb_3 c_bare_0 c_bare_1 c_bare_2 c_bare_3
        go_meet
        exact ⟨G, B_y⟩
      · rw [if_neg hp19] at hrd
        rw [hrd] at HRD
        have hp1 : decide (p < 19) = false := by simp; omega
        have hp2 : decide (19 ≤ p) = true := by simp; omega
        clear hrd hp19
        go_wp2_with fail
        refine (HRD.out _).mono ?_; rintro e w3 ⟨rfl, g1⟩
        replace G := Lib.hid (World.grownBy.trans G.out g1)
        replace B_x := Lib.hid (B_x.out.new g1)
        replace B_y := Lib.hid (B_y.out.new g1)
        clear g1
        try unfold hdV txt
        go_wp2_with fail
        have hb := Blk.made w3 25 #[.int .i64 c, .int .i64 x, .int .i64 p, .string ⟨#[]⟩]
        have ga := World.grownBy_alloc w3 (.cells #[.int .i64 c, .int .i64 x, .int .i64 p, .string ⟨#[]⟩] 25) none
        have hle := G.out.size
        have n_x := B_x.out.lt
        have n_y := B_y.out.lt
        replace G := Lib.hid (World.grownBy.trans G.out ga)
        replace B_x := Lib.hid (B_x.out.new ga)
        replace B_y := Lib.hid (B_y.out.new ga)
        generalize w3.alloc (.cells #[.int .i64 c, .int .i64 x, .int .i64 p, .string ⟨#[]⟩] 25) = w4 at *
        generalize w3.heap.size = K_rb at *
        have N_x_rb := Lib.hid n_x
        clear n_x
        have N_y_rb := Lib.hid n_y
        clear n_y
        have B_rb := Lib.hid hb
        have E_rb := Lib.hid hle
        clear hb ga hle
        refine (HHD.out _).mono ?_; rintro e w5 ⟨rfl, g1⟩
        replace G := Lib.hid (World.grownBy.trans G.out g1)
        replace B_x := Lib.hid (B_x.out.new g1)
        replace B_y := Lib.hid (B_y.out.new g1)
        replace B_rb := Lib.hid (B_rb.out.new g1)
        clear g1
        try unfold anV txt
        go_upto_region 9 with fail
        have hb := Blk.made w5 38 #[.int .i64 ay, .int .i64 af, .string ⟨ad.toArray⟩]
        have ga := World.grownBy_alloc w5 (.cells #[.int .i64 ay, .int .i64 af, .string ⟨ad.toArray⟩] 38) none
        have hle := G.out.size
        have n_x := B_x.out.lt
        have n_y := B_y.out.lt
        have n_rb := B_rb.out.lt
        replace G := Lib.hid (World.grownBy.trans G.out ga)
        replace B_x := Lib.hid (B_x.out.new ga)
        replace B_y := Lib.hid (B_y.out.new ga)
        replace B_rb := Lib.hid (B_rb.out.new ga)
        generalize w5.alloc (.cells #[.int .i64 ay, .int .i64 af, .string ⟨ad.toArray⟩] 38) = w6 at *
        generalize w5.heap.size = K_ra at *
        have N_x_ra := Lib.hid n_x
        clear n_x
        have N_y_ra := Lib.hid n_y
        clear n_y
        have N_rb_ra := Lib.hid n_rb
        clear n_rb
        clear hb ga hle
        have c_x_0 := B_x.out.cell (i := 0) (x := .int .i64 c) rfl
        have c_x_1 := B_x.out.cell (i := 1) (x := .int .i64 x) rfl
        have c_x_2 := B_x.out.cell (i := 2) (x := .int .i64 p) rfl
        have c_x_3 := B_x.out.cell (i := 3) (x := .string ⟨b.toArray⟩) rfl
        go_upto_region 10 with fail
        clear c_x_0 c_x_1 c_x_2 c_x_3
        have hb := Blk.made w6 25 #[.int .i64 c, .int .i64 x, .int .i64 p, .string ⟨b.toArray⟩]
        have ga := World.grownBy_alloc w6 (.cells #[.int .i64 c, .int .i64 x, .int .i64 p, .string ⟨b.toArray⟩] 25) none
        have hle := G.out.size
        have n_x := B_x.out.lt
        have n_y := B_y.out.lt
        have n_rb := B_rb.out.lt
        replace G := Lib.hid (World.grownBy.trans G.out ga)
        replace B_x := Lib.hid (B_x.out.new ga)
        replace B_y := Lib.hid (B_y.out.new ga)
        replace B_rb := Lib.hid (B_rb.out.new ga)
        generalize w6.alloc (.cells #[.int .i64 c, .int .i64 x, .int .i64 p, .string ⟨b.toArray⟩] 25) = w7 at *
        generalize w6.heap.size = K_bare at *
        have N_x_bare := Lib.hid n_x
        clear n_x
        have N_y_bare := Lib.hid n_y
        clear n_y
        have N_rb_bare := Lib.hid n_rb
        clear n_rb
        have B_bare := Lib.hid hb
        have E_bare := Lib.hid hle
        clear hb ga hle
        have c_bare_0 := B_bare.out.cell (i := 0) (x := .int .i64 c) rfl
        have c_bare_1 := B_bare.out.cell (i := 1) (x := .int .i64 x) rfl
        have c_bare_2 := B_bare.out.cell (i := 2) (x := .int .i64 p) rfl
        have c_bare_3 := B_bare.out.cell (i := 3) (x := .string ⟨b.toArray⟩) rfl
        have f_bare_3 := B_bare.out.frozen 3
        go_upto_region 11 with fail
        clear c_bare_0 c_bare_1 c_bare_2 c_bare_3 f_bare_3
        have gs := Lib.grownBy_setB (World.grownBy.refl w7 (some K_bare)) 3 (.string ⟨#[]⟩)
        replace B_x := Lib.hid (B_x.out.kept gs (by have := N_x_bare.out; simp; omega))
        replace B_y := Lib.hid (B_y.out.kept gs (by have := N_y_bare.out; simp; omega))
        replace B_rb := Lib.hid (B_rb.out.kept gs (by have := N_rb_bare.out; simp; omega))
        replace B_bare := Lib.hid (B_bare.out.set 3 (.string ⟨#[]⟩))
        simp only [List.setIfInBounds_toArray, List.set_cons_succ, List.set_cons_zero] at B_bare
        replace G := Lib.hid (grown_own G.out gs (fun n hn => by cases hn; exact E_bare.out))
        clear gs
        generalize w7.setCell ⟨K_bare, 3, none⟩ (.string ⟨#[]⟩) = w8 at *
        have c_x_0 := B_x.out.cell (i := 0) (x := .int .i64 c) rfl
        have c_x_1 := B_x.out.cell (i := 1) (x := .int .i64 x) rfl
        have c_x_2 := B_x.out.cell (i := 2) (x := .int .i64 p) rfl
        have c_x_3 := B_x.out.cell (i := 3) (x := .string ⟨b.toArray⟩) rfl
        have c_rb_0 := B_rb.out.cell (i := 0) (x := .int .i64 c) rfl
        have c_rb_1 := B_rb.out.cell (i := 1) (x := .int .i64 x) rfl
        have c_rb_2 := B_rb.out.cell (i := 2) (x := .int .i64 p) rfl
        have c_rb_3 := B_rb.out.cell (i := 3) (x := .string ⟨#[]⟩) rfl
        have c_bare_0 := B_bare.out.cell (i := 0) (x := .int .i64 c) rfl
        have c_bare_1 := B_bare.out.cell (i := 1) (x := .int .i64 x) rfl
        have c_bare_2 := B_bare.out.cell (i := 2) (x := .int .i64 p) rfl
        have c_bare_3 := B_bare.out.cell (i := 3) (x := .string ⟨#[]⟩) rfl
        go_wp2_with fail
        clear c_x_0 c_x_1 c_x_2 c_x_3 c_rb_0 c_rb_1 c_rb_2 c_rb_3 c_bare_0 c_bare_1 c_bare_2 c_bare_3
        go_meet
        exact ⟨G, B_y⟩
    · have hne : (e1 == 0) = false := by simpa using he
      clear he
      go_wp2_with fail
      go_meet
      exact ⟨G, B_y⟩
  case rest =>
    obtain ⟨G, B_y⟩ := hcut
    have c_y_0 := B_y.out.cell (i := 0) (x := .int .i64 y) rfl
    have c_y_1 := B_y.out.cell (i := 1) (x := .int .i64 f) rfl
    have c_y_2 := B_y.out.cell (i := 2) (x := .string ⟨d.toArray⟩) rfl
    go_wp2_with fail
    clear c_y_0 c_y_1 c_y_2
    refine (HT1.out _).mono ?_; rintro e w51 ⟨rfl, g1⟩
    replace G := Lib.hid (World.grownBy.trans G.out g1)
    replace B_y := Lib.hid (B_y.out.new g1)
    clear g1
    try unfold txt
    go_upto_if 119 with fail
    go_cut [] (fun wx => Hid (W.grownBy wx none))
    case first =>
      by_cases he : e2 = 0
      · subst he
        obtain ⟨hh, hr4⟩ := HB2.out t2 rfl
        have HRD := Lib.hid (fun w => Read_l t2 w (by have := HLT.out; omega))
        have HHD := Lib.hid (fun w => Hear_l t2 w (by have := HLT.out; omega))
        rw [hh] at HHD
        generalize cRead t2 = ah at *
        obtain ⟨⟨rc, rx, rp, rb⟩, a4⟩ := ah
        dsimp only at hr4
        subst hr4
        clear HB1 HB2 HT1 HLW HLT HW1 hh
        go_wp2_with fail
        refine (HHD.out _).mono ?_; rintro e w52 ⟨rfl, g1⟩
        replace G := Lib.hid (World.grownBy.trans G.out g1)
        replace B_y := Lib.hid (B_y.out.new g1)
        clear g1
        try unfold anV txt
        go_wp2_with fail
        have hb := Blk.made w52 38 #[.int .i64 y, .int .i64 f, .string ⟨d.toArray⟩]
        have ga := World.grownBy_alloc w52 (.cells #[.int .i64 y, .int .i64 f, .string ⟨d.toArray⟩] 38) none
        have hle := G.out.size
        have n_y := B_y.out.lt
        replace G := Lib.hid (World.grownBy.trans G.out ga)
        replace B_y := Lib.hid (B_y.out.new ga)
        generalize w52.alloc (.cells #[.int .i64 y, .int .i64 f, .string ⟨d.toArray⟩] 38) = w53 at *
        generalize w52.heap.size = K_ra at *
        have N_y_ra := Lib.hid n_y
        clear n_y
        have B_ra := Lib.hid hb
        have E_ra := Lib.hid hle
        clear hb ga hle
        refine (HRD.out _).mono ?_; rintro e w54 ⟨rfl, g1⟩
        replace G := Lib.hid (World.grownBy.trans G.out g1)
        replace B_y := Lib.hid (B_y.out.new g1)
        replace B_ra := Lib.hid (B_ra.out.new g1)
        clear g1
        try unfold hdV txt
        go_upto_region 17 with fail
        have hb := Blk.made w54 25 #[.int .i64 rc, .int .i64 rx, .int .i64 rp, .string ⟨rb.toArray⟩]
        have ga := World.grownBy_alloc w54 (.cells #[.int .i64 rc, .int .i64 rx, .int .i64 rp, .string ⟨rb.toArray⟩] 25) none
        have hle := G.out.size
        have n_y := B_y.out.lt
        have n_ra := B_ra.out.lt
        replace G := Lib.hid (World.grownBy.trans G.out ga)
        replace B_y := Lib.hid (B_y.out.new ga)
        replace B_ra := Lib.hid (B_ra.out.new ga)
        generalize w54.alloc (.cells #[.int .i64 rc, .int .i64 rx, .int .i64 rp, .string ⟨rb.toArray⟩] 25) = w55 at *
        generalize w54.heap.size = K_rb2 at *
        have N_y_rb2 := Lib.hid n_y
        clear n_y
        have N_ra_rb2 := Lib.hid n_ra
        clear n_ra
        clear hb ga hle
        have c_y_0 := B_y.out.cell (i := 0) (x := .int .i64 y) rfl
        have c_y_1 := B_y.out.cell (i := 1) (x := .int .i64 f) rfl
        have c_y_2 := B_y.out.cell (i := 2) (x := .string ⟨d.toArray⟩) rfl
        have c_ra_0 := B_ra.out.cell (i := 0) (x := .int .i64 y) rfl
        have c_ra_1 := B_ra.out.cell (i := 1) (x := .int .i64 f) rfl
        have c_ra_2 := B_ra.out.cell (i := 2) (x := .string ⟨d.toArray⟩) rfl
        go_wp2_with fail
        clear c_y_0 c_y_1 c_y_2 c_ra_0 c_ra_1 c_ra_2
        go_meet
        exact G
      · have hne : (e2 == 0) = false := by simpa using he
        clear he
        go_wp2_with fail
        go_meet
        exact G
    case rest =>
      have G := hcut
      clear hcut
      go_wp2_with fail
      refine (HR3.out _).mono ?_; rintro e w81 ⟨rfl, g1⟩
      replace G := Lib.hid (World.grownBy.trans G.out g1)
      clear g1
      try unfold hdV txt
      go_wp2_with fail
      have hb := Blk.made w81 25 #[.int .i64 c3, .int .i64 x3, .int .i64 p3, .string ⟨b3.toArray⟩]
      have ga := World.grownBy_alloc w81 (.cells #[.int .i64 c3, .int .i64 x3, .int .i64 p3, .string ⟨b3.toArray⟩] 25) none
      have hle := G.out.size
      replace G := Lib.hid (World.grownBy.trans G.out ga)
      generalize w81.alloc (.cells #[.int .i64 c3, .int .i64 x3, .int .i64 p3, .string ⟨b3.toArray⟩] 25) = w82 at *
      generalize w81.heap.size = K_b3 at *
      have B_b3 := Lib.hid hb
      have E_b3 := Lib.hid hle
      clear hb ga hle
      refine (HH3.out _).mono ?_; rintro e w83 ⟨rfl, g1⟩
      replace G := Lib.hid (World.grownBy.trans G.out g1)
      replace B_b3 := Lib.hid (B_b3.out.new g1)
      clear g1
      try unfold anV txt
      go_upto_if 152 with fail
      have hb := Blk.made w83 38 #[.int .i64 y4, .int .i64 f4, .string ⟨d4.toArray⟩]
      have ga := World.grownBy_alloc w83 (.cells #[.int .i64 y4, .int .i64 f4, .string ⟨d4.toArray⟩] 38) none
      have hle := G.out.size
      have n_b3 := B_b3.out.lt
      replace G := Lib.hid (World.grownBy.trans G.out ga)
      replace B_b3 := Lib.hid (B_b3.out.new ga)
      generalize w83.alloc (.cells #[.int .i64 y4, .int .i64 f4, .string ⟨d4.toArray⟩] 38) = w84 at *
      generalize w83.heap.size = K_c4 at *
      have N_b3_c4 := Lib.hid n_b3
      clear n_b3
      have B_c4 := Lib.hid hb
      have E_c4 := Lib.hid hle
      clear hb ga hle
      go_cut [] (fun wx => Hid (W.grownBy wx none) ∧ Hid (Blk wx K_c4 38 #[.int .i64 y4, .int .i64 f4, .string ⟨d4.toArray⟩]))
      case first =>
        by_cases he : e3 = 0
        · subst he
          obtain ⟨hw, hq4, hix, hip, hbl⟩ := HB3.out rfl
          subst hq4
          have HWB := Lib.hid (fun w => Write_any ⟨c3, x3, p3, b3⟩ w hix hip hbl)
          rw [hw] at HWB
          unfold hdV txt at HWB
          clear HB1 HB2 HB3 HB4 HT1 HLW HLT HW1 HR3 HH3 hw hix hip hbl
          have c_b3_0 := B_b3.out.cell (i := 0) (x := .int .i64 c3) rfl
          have c_b3_1 := B_b3.out.cell (i := 1) (x := .int .i64 x3) rfl
          have c_b3_2 := B_b3.out.cell (i := 2) (x := .int .i64 p3) rfl
          have c_b3_3 := B_b3.out.cell (i := 3) (x := .string ⟨b3.toArray⟩) rfl
          go_wp2_with fail
          clear c_b3_0 c_b3_1 c_b3_2 c_b3_3
          refine (HWB.out _).mono ?_; rintro e w85 ⟨rfl, g1⟩
          replace G := Lib.hid (World.grownBy.trans G.out g1)
          replace B_b3 := Lib.hid (B_b3.out.new g1)
          replace B_c4 := Lib.hid (B_c4.out.new g1)
          clear g1
          try unfold txt
          go_wp2_with fail
          go_meet
          exact ⟨G, B_c4⟩
        · have hne : (e3 == 0) = false := by simpa using he
          clear he
          go_wp2_with fail
          go_meet
          exact ⟨G, B_c4⟩
      case rest =>
        obtain ⟨G, B_c4⟩ := hcut
        by_cases he : e4 = 0
        · subst he
          obtain ⟨hw, hq4, hix, hbl⟩ := HB4.out rfl
          subst hq4
          have HWB := Lib.hid (fun w => Tell_any ⟨y4, f4, d4⟩ w hix hbl)
          rw [hw] at HWB
          unfold anV txt at HWB
          clear HB1 HB2 HB3 HB4 HT1 HLW HLT HW1 HR3 HH3 hw hix hbl
          have c_c4_0 := B_c4.out.cell (i := 0) (x := .int .i64 y4) rfl
          have c_c4_1 := B_c4.out.cell (i := 1) (x := .int .i64 f4) rfl
          have c_c4_2 := B_c4.out.cell (i := 2) (x := .string ⟨d4.toArray⟩) rfl
          go_wp2_with fail
          clear c_c4_0 c_c4_1 c_c4_2
          refine (HWB.out _).mono ?_; rintro e w111 ⟨rfl, g1⟩
          replace G := Lib.hid (World.grownBy.trans G.out g1)
          replace B_c4 := Lib.hid (B_c4.out.new g1)
          clear g1
          try unfold txt
          go_wp2_with fail
          go_ret
          exact ⟨rfl, G.out⟩
        · have hne : (e4 == 0) = false := by simpa using he
          clear he
          go_wp2_with fail
          go_ret
          exact ⟨rfl, G.out⟩
end Go.Proofs.Ytkhlmfnfcdhceaa
