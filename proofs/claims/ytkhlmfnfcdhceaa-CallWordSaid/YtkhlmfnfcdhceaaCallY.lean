/- CallOne, walked. -/
import Derived.Test.YtkhlmfnfcdhceaaCallQ
namespace Go.Proofs.Ytkhlmfnfcdhceaa
open Go.RowKit

theorem cone_len (h : Hd) : (cWrite h).2 = 0 → (cWrite h).1.length = 24 + h.b.length := fun e => by
  have e : cWrite h = ((cWrite h).1, 0) := Prod.ext rfl e
  rw [(cWrite_ok e).1, hdB_len]
theorem cone_len2 (h : An) : (cTell h).2 = 0 → (cTell h).1.length = 12 + h.b.length := fun e => by
  have e : cTell h = ((cTell h).1, 0) := Prod.ext rfl e
  rw [(cTell_ok e).1, anB_len]
theorem cone_inj (h g : Hd) : (cWrite h).2 = 0 → (cWrite g).2 = 0 → ((cWrite h).1 = (cWrite g).1 ↔ h = g) := fun e f => hdB_inj (Prod.ext rfl e) (Prod.ext rfl f)
theorem cone_inj2 (h g : An) : (cTell h).2 = 0 → (cTell g).2 = 0 → ((cTell h).1 = (cTell g).1 ↔ h = g) := fun e f => anB_inj (Prod.ext rfl e) (Prod.ext rfl f)

set_option maxRecDepth 10000 in
set_option maxHeartbeats 8000000 in
theorem cone_short (c x p c' x' p' y f y' f' : Int) (b b' d d' : List UInt8) (W : World) (hx : isI x) (hp : isI p) (hx' : isI x') (hp' : isI p') (hy : isI y) (hy' : isI y') (hb : b.length + b'.length ≤ 20000) (hd : d.length + d'.length ≤ 20000) :
    Calls Try.prog 8 #[hdV ⟨c, x, p, b⟩, hdV ⟨c', x', p', b'⟩, anV ⟨y, f, d⟩, anV ⟨y', f', d'⟩] W (OK1 W) := by
  have HW1 := Lib.hid (fun w => Write_any ⟨c, x, p, b⟩ w hx hp (by show b.length ≤ maxLen; unfold maxLen; omega))
  have HW2 := Lib.hid (fun w => Write_any ⟨c', x', p', b'⟩ w hx' hp' (by show b'.length ≤ maxLen; unfold maxLen; omega))
  have HT1 := Lib.hid (fun w => Tell_any ⟨y, f, d⟩ w hy (by show d.length ≤ _; omega))
  have HT2 := Lib.hid (fun w => Tell_any ⟨y', f', d'⟩ w hy' (by show d'.length ≤ _; omega))
  have q1 : (b.length : Int) + (b'.length : Int) ≤ 20000 := by omega
  have q2 : (d.length : Int) + (d'.length : Int) ≤ 20000 := by omega
  have HB1 := Lib.hid (cone_len ⟨c, x, p, b⟩)
  have HB2 := Lib.hid (cone_inj ⟨c, x, p, b⟩ ⟨c', x', p', b'⟩)
  have HB3 := Lib.hid (cone_len2 ⟨y, f, d⟩)
  have HB4 := Lib.hid (cone_inj2 ⟨y, f, d⟩ ⟨y', f', d'⟩)
  clear hx hp hx' hp' hy hy' hb hd
  generalize cWrite ⟨c, x, p, b⟩ = r1 at *
  generalize cWrite ⟨c', x', p', b'⟩ = r2 at *
  generalize cTell ⟨y, f, d⟩ = r3 at *
  generalize cTell ⟨y', f', d'⟩ = r4 at *
  obtain ⟨t1, e1⟩ := r1
  obtain ⟨t2, e2⟩ := r2
  obtain ⟨t3, e3⟩ := r3
  obtain ⟨t4, e4⟩ := r4
  dsimp only at HB1 HB2 HB3 HB4
  unfold hdV txt at HW1 HW2
  unfold anV txt at HT1 HT2
  unfold hdV anV txt
  go_enter Try.func8, Try.ntmps8
  go_wp2_with fail
  have hb0 := Blk.made (W) 42 #[.int .i64 c, .int .i64 x, .int .i64 p, .string ⟨b.toArray⟩]
  have ga := World.grownBy_alloc (W) (.cells #[.int .i64 c, .int .i64 x, .int .i64 p, .string ⟨b.toArray⟩] 42) none
  have G := Lib.hid ga
  clear ga
  have hb1 := Blk.made (W.alloc (.cells #[.int .i64 c, .int .i64 x, .int .i64 p, .string ⟨b.toArray⟩] 42)) 42 #[.int .i64 c', .int .i64 x', .int .i64 p', .string ⟨b'.toArray⟩]
  have ga := World.grownBy_alloc (W.alloc (.cells #[.int .i64 c, .int .i64 x, .int .i64 p, .string ⟨b.toArray⟩] 42)) (.cells #[.int .i64 c', .int .i64 x', .int .i64 p', .string ⟨b'.toArray⟩] 42) none
  rw [show (W.alloc (.cells #[.int .i64 c, .int .i64 x, .int .i64 p, .string ⟨b.toArray⟩] 42)).heap.size = W.heap.size + 1 by simp] at hb1
  replace hb0 := hb0.new ga
  replace G := Lib.hid (World.grownBy.trans G.out ga)
  clear ga
  have hb2 := Blk.made ((W.alloc (.cells #[.int .i64 c, .int .i64 x, .int .i64 p, .string ⟨b.toArray⟩] 42)).alloc (.cells #[.int .i64 c', .int .i64 x', .int .i64 p', .string ⟨b'.toArray⟩] 42)) 43 #[.int .i64 y, .int .i64 f, .string ⟨d.toArray⟩]
  have ga := World.grownBy_alloc ((W.alloc (.cells #[.int .i64 c, .int .i64 x, .int .i64 p, .string ⟨b.toArray⟩] 42)).alloc (.cells #[.int .i64 c', .int .i64 x', .int .i64 p', .string ⟨b'.toArray⟩] 42)) (.cells #[.int .i64 y, .int .i64 f, .string ⟨d.toArray⟩] 43) none
  rw [show ((W.alloc (.cells #[.int .i64 c, .int .i64 x, .int .i64 p, .string ⟨b.toArray⟩] 42)).alloc (.cells #[.int .i64 c', .int .i64 x', .int .i64 p', .string ⟨b'.toArray⟩] 42)).heap.size = W.heap.size + 2 by simp] at hb2
  replace hb0 := hb0.new ga
  replace hb1 := hb1.new ga
  replace G := Lib.hid (World.grownBy.trans G.out ga)
  clear ga
  have hb3 := Blk.made (((W.alloc (.cells #[.int .i64 c, .int .i64 x, .int .i64 p, .string ⟨b.toArray⟩] 42)).alloc (.cells #[.int .i64 c', .int .i64 x', .int .i64 p', .string ⟨b'.toArray⟩] 42)).alloc (.cells #[.int .i64 y, .int .i64 f, .string ⟨d.toArray⟩] 43)) 43 #[.int .i64 y', .int .i64 f', .string ⟨d'.toArray⟩]
  have ga := World.grownBy_alloc (((W.alloc (.cells #[.int .i64 c, .int .i64 x, .int .i64 p, .string ⟨b.toArray⟩] 42)).alloc (.cells #[.int .i64 c', .int .i64 x', .int .i64 p', .string ⟨b'.toArray⟩] 42)).alloc (.cells #[.int .i64 y, .int .i64 f, .string ⟨d.toArray⟩] 43)) (.cells #[.int .i64 y', .int .i64 f', .string ⟨d'.toArray⟩] 43) none
  rw [show (((W.alloc (.cells #[.int .i64 c, .int .i64 x, .int .i64 p, .string ⟨b.toArray⟩] 42)).alloc (.cells #[.int .i64 c', .int .i64 x', .int .i64 p', .string ⟨b'.toArray⟩] 42)).alloc (.cells #[.int .i64 y, .int .i64 f, .string ⟨d.toArray⟩] 43)).heap.size = W.heap.size + 3 by simp] at hb3
  replace hb0 := hb0.new ga
  replace hb1 := hb1.new ga
  replace hb2 := hb2.new ga
  replace G := Lib.hid (World.grownBy.trans G.out ga)
  clear ga
  have B_h := Lib.hid hb0
  have B_g := Lib.hid hb1
  have B_a := Lib.hid hb2
  have B_b := Lib.hid hb3
  clear hb0 hb1 hb2 hb3
  generalize (((W.alloc (.cells #[.int .i64 c, .int .i64 x, .int .i64 p, .string ⟨b.toArray⟩] 42)).alloc (.cells #[.int .i64 c', .int .i64 x', .int .i64 p', .string ⟨b'.toArray⟩] 42)).alloc (.cells #[.int .i64 y, .int .i64 f, .string ⟨d.toArray⟩] 43)).alloc (.cells #[.int .i64 y', .int .i64 f', .string ⟨d'.toArray⟩] 43) = w0 at *
  generalize W.heap.size = K at *
  refine (works_any _).mono ?_; rintro e w1 ⟨rfl, g1⟩
  replace G := Lib.hid (World.grownBy.trans G.out g1)
  replace B_h := Lib.hid (B_h.out.new g1)
  replace B_g := Lib.hid (B_g.out.new g1)
  replace B_a := Lib.hid (B_a.out.new g1)
  replace B_b := Lib.hid (B_b.out.new g1)
  clear g1
  have c_h_0 := B_h.out.cell (i := 0) (x := .int .i64 c) rfl
  have c_h_1 := B_h.out.cell (i := 1) (x := .int .i64 x) rfl
  have c_h_2 := B_h.out.cell (i := 2) (x := .int .i64 p) rfl
  have c_h_3 := B_h.out.cell (i := 3) (x := .string ⟨b.toArray⟩) rfl
  have c_g_0 := B_g.out.cell (i := 0) (x := .int .i64 c') rfl
  have c_g_1 := B_g.out.cell (i := 1) (x := .int .i64 x') rfl
  have c_g_2 := B_g.out.cell (i := 2) (x := .int .i64 p') rfl
  have c_g_3 := B_g.out.cell (i := 3) (x := .string ⟨b'.toArray⟩) rfl
  have c_a_0 := B_a.out.cell (i := 0) (x := .int .i64 y) rfl
  have c_a_1 := B_a.out.cell (i := 1) (x := .int .i64 f) rfl
  have c_a_2 := B_a.out.cell (i := 2) (x := .string ⟨d.toArray⟩) rfl
  have c_b_0 := B_b.out.cell (i := 0) (x := .int .i64 y') rfl
  have c_b_1 := B_b.out.cell (i := 1) (x := .int .i64 f') rfl
  have c_b_2 := B_b.out.cell (i := 2) (x := .string ⟨d'.toArray⟩) rfl
  go_wp2_with fail
  clear c_h_0 c_h_1 c_h_2 c_h_3 c_g_0 c_g_1 c_g_2 c_g_3 c_a_0 c_a_1 c_a_2 c_b_0 c_b_1 c_b_2
  refine (HW1.out _).mono ?_; rintro e w2 ⟨rfl, g1⟩
  replace G := Lib.hid (World.grownBy.trans G.out g1)
  replace B_h := Lib.hid (B_h.out.new g1)
  replace B_g := Lib.hid (B_g.out.new g1)
  replace B_a := Lib.hid (B_a.out.new g1)
  replace B_b := Lib.hid (B_b.out.new g1)
  clear g1
  try unfold txt
  have c_g_0 := B_g.out.cell (i := 0) (x := .int .i64 c') rfl
  have c_g_1 := B_g.out.cell (i := 1) (x := .int .i64 x') rfl
  have c_g_2 := B_g.out.cell (i := 2) (x := .int .i64 p') rfl
  have c_g_3 := B_g.out.cell (i := 3) (x := .string ⟨b'.toArray⟩) rfl
  go_wp2_with fail
  clear c_g_0 c_g_1 c_g_2 c_g_3
  refine (HW2.out _).mono ?_; rintro e w3 ⟨rfl, g1⟩
  replace G := Lib.hid (World.grownBy.trans G.out g1)
  replace B_h := Lib.hid (B_h.out.new g1)
  replace B_g := Lib.hid (B_g.out.new g1)
  replace B_a := Lib.hid (B_a.out.new g1)
  replace B_b := Lib.hid (B_b.out.new g1)
  clear g1
  try unfold txt
  go_upto_region 5 with fail
  go_cut [75] (fun v wx => v = .bool false ∧ Hid (W.grownBy wx none) ∧ Hid (Blk wx (K + 2) 43 #[.int .i64 y, .int .i64 f, .string ⟨d.toArray⟩]) ∧ Hid (Blk wx (K + 3) 43 #[.int .i64 y', .int .i64 f', .string ⟨d'.toArray⟩]))
  case first =>
    by_cases he : e1 = 0
    · subst he
      have ht1 := HB1.out rfl
      by_cases he2 : e2 = 0
      · subst he2
        have HT := Lib.hid (HB2.out rfl rfl)
        have hln : ((t1.length : Int) != 24 + (b.length : Int)) = false := by simp; omega
        clear ht1
        by_cases hc : c = c'
        · subst hc
          by_cases hx : x = x'
          · subst hx
            by_cases hp : p = p'
            · subst hp
              by_cases hb : b = b'
              · subst hb
                obtain rfl := HT.out.2 rfl
                have c_h_0 := B_h.out.cell (i := 0) (x := .int .i64 c) rfl
                have c_h_1 := B_h.out.cell (i := 1) (x := .int .i64 x) rfl
                have c_h_2 := B_h.out.cell (i := 2) (x := .int .i64 p) rfl
                have c_h_3 := B_h.out.cell (i := 3) (x := .string ⟨b.toArray⟩) rfl
                have c_g_0 := B_g.out.cell (i := 0) (x := .int .i64 c) rfl
                have c_g_1 := B_g.out.cell (i := 1) (x := .int .i64 x) rfl
                have c_g_2 := B_g.out.cell (i := 2) (x := .int .i64 p) rfl
                have c_g_3 := B_g.out.cell (i := 3) (x := .string ⟨b.toArray⟩) rfl
                go_wp2_with fail
                go_meet
                exact ⟨rfl, G, B_a, B_b⟩
              · have hb2 : (b == b') = false := by simpa using hb
                have ht : (t1 == t2) = false := by rw [beq_eq_false_iff_ne]; intro e; have := HT.out.1 e; exact hb (by injection this)
                have c_h_0 := B_h.out.cell (i := 0) (x := .int .i64 c) rfl
                have c_h_1 := B_h.out.cell (i := 1) (x := .int .i64 x) rfl
                have c_h_2 := B_h.out.cell (i := 2) (x := .int .i64 p) rfl
                have c_h_3 := B_h.out.cell (i := 3) (x := .string ⟨b.toArray⟩) rfl
                have c_g_0 := B_g.out.cell (i := 0) (x := .int .i64 c) rfl
                have c_g_1 := B_g.out.cell (i := 1) (x := .int .i64 x) rfl
                have c_g_2 := B_g.out.cell (i := 2) (x := .int .i64 p) rfl
                have c_g_3 := B_g.out.cell (i := 3) (x := .string ⟨b'.toArray⟩) rfl
                go_wp2_with fail
                go_meet
                exact ⟨rfl, G, B_a, B_b⟩
            · have hp2 : (p == p') = false := by simpa using hp
              have ht : (t1 == t2) = false := by rw [beq_eq_false_iff_ne]; intro e; have := HT.out.1 e; exact hp (by injection this)
              have c_h_0 := B_h.out.cell (i := 0) (x := .int .i64 c) rfl
              have c_h_1 := B_h.out.cell (i := 1) (x := .int .i64 x) rfl
              have c_h_2 := B_h.out.cell (i := 2) (x := .int .i64 p) rfl
              have c_h_3 := B_h.out.cell (i := 3) (x := .string ⟨b.toArray⟩) rfl
              have c_g_0 := B_g.out.cell (i := 0) (x := .int .i64 c) rfl
              have c_g_1 := B_g.out.cell (i := 1) (x := .int .i64 x) rfl
              have c_g_2 := B_g.out.cell (i := 2) (x := .int .i64 p') rfl
              have c_g_3 := B_g.out.cell (i := 3) (x := .string ⟨b'.toArray⟩) rfl
              go_wp2_with fail
              go_meet
              exact ⟨rfl, G, B_a, B_b⟩
          · have hx2 : (x == x') = false := by simpa using hx
            have ht : (t1 == t2) = false := by rw [beq_eq_false_iff_ne]; intro e; have := HT.out.1 e; exact hx (by injection this)
            have c_h_0 := B_h.out.cell (i := 0) (x := .int .i64 c) rfl
            have c_h_1 := B_h.out.cell (i := 1) (x := .int .i64 x) rfl
            have c_h_2 := B_h.out.cell (i := 2) (x := .int .i64 p) rfl
            have c_h_3 := B_h.out.cell (i := 3) (x := .string ⟨b.toArray⟩) rfl
            have c_g_0 := B_g.out.cell (i := 0) (x := .int .i64 c) rfl
            have c_g_1 := B_g.out.cell (i := 1) (x := .int .i64 x') rfl
            have c_g_2 := B_g.out.cell (i := 2) (x := .int .i64 p') rfl
            have c_g_3 := B_g.out.cell (i := 3) (x := .string ⟨b'.toArray⟩) rfl
            go_wp2_with fail
            go_meet
            exact ⟨rfl, G, B_a, B_b⟩
        · have hc2 : (c == c') = false := by simpa using hc
          have ht : (t1 == t2) = false := by rw [beq_eq_false_iff_ne]; intro e; have := HT.out.1 e; exact hc (by injection this)
          have c_h_0 := B_h.out.cell (i := 0) (x := .int .i64 c) rfl
          have c_h_1 := B_h.out.cell (i := 1) (x := .int .i64 x) rfl
          have c_h_2 := B_h.out.cell (i := 2) (x := .int .i64 p) rfl
          have c_h_3 := B_h.out.cell (i := 3) (x := .string ⟨b.toArray⟩) rfl
          have c_g_0 := B_g.out.cell (i := 0) (x := .int .i64 c') rfl
          have c_g_1 := B_g.out.cell (i := 1) (x := .int .i64 x') rfl
          have c_g_2 := B_g.out.cell (i := 2) (x := .int .i64 p') rfl
          have c_g_3 := B_g.out.cell (i := 3) (x := .string ⟨b'.toArray⟩) rfl
          go_wp2_with fail
          go_meet
          exact ⟨rfl, G, B_a, B_b⟩
      · have hne : (e2 == 0) = false := by simpa using he2
        clear he2
        have hln : ((t1.length : Int) != 24 + (b.length : Int)) = false := by simp; omega
        clear ht1
        have c_h_0 := B_h.out.cell (i := 0) (x := .int .i64 c) rfl
        have c_h_1 := B_h.out.cell (i := 1) (x := .int .i64 x) rfl
        have c_h_2 := B_h.out.cell (i := 2) (x := .int .i64 p) rfl
        have c_h_3 := B_h.out.cell (i := 3) (x := .string ⟨b.toArray⟩) rfl
        have c_g_0 := B_g.out.cell (i := 0) (x := .int .i64 c') rfl
        have c_g_1 := B_g.out.cell (i := 1) (x := .int .i64 x') rfl
        have c_g_2 := B_g.out.cell (i := 2) (x := .int .i64 p') rfl
        have c_g_3 := B_g.out.cell (i := 3) (x := .string ⟨b'.toArray⟩) rfl
        go_wp2_with fail
        go_meet
        exact ⟨rfl, G, B_a, B_b⟩
    · have hne : (e1 == 0) = false := by simpa using he
      clear he
      go_wp2_with fail
      go_meet
      exact ⟨rfl, G, B_a, B_b⟩
  case rest =>
    obtain ⟨rfl, G, B_a, B_b⟩ := hcut
    clear HB1 HB2 HW1 HW2
    have c_a_0 := B_a.out.cell (i := 0) (x := .int .i64 y) rfl
    have c_a_1 := B_a.out.cell (i := 1) (x := .int .i64 f) rfl
    have c_a_2 := B_a.out.cell (i := 2) (x := .string ⟨d.toArray⟩) rfl
    go_wp2_with fail
    clear c_a_0 c_a_1 c_a_2
    refine (HT1.out _).mono ?_; rintro e w61 ⟨rfl, g1⟩
    replace G := Lib.hid (World.grownBy.trans G.out g1)
    replace B_a := Lib.hid (B_a.out.new g1)
    replace B_b := Lib.hid (B_b.out.new g1)
    clear g1
    try unfold txt
    have c_b_0 := B_b.out.cell (i := 0) (x := .int .i64 y') rfl
    have c_b_1 := B_b.out.cell (i := 1) (x := .int .i64 f') rfl
    have c_b_2 := B_b.out.cell (i := 2) (x := .string ⟨d'.toArray⟩) rfl
    go_wp2_with fail
    clear c_b_0 c_b_1 c_b_2
    refine (HT2.out _).mono ?_; rintro e w62 ⟨rfl, g1⟩
    replace G := Lib.hid (World.grownBy.trans G.out g1)
    replace B_a := Lib.hid (B_a.out.new g1)
    replace B_b := Lib.hid (B_b.out.new g1)
    clear g1
    try unfold txt
    by_cases he : e3 = 0
    · subst he
      have ht1 := HB3.out rfl
      by_cases he2 : e4 = 0
      · subst he2
        have HT := Lib.hid (HB4.out rfl rfl)
        have hln : ((t3.length : Int) != 12 + (d.length : Int)) = false := by simp; omega
        clear ht1
        by_cases hy : y = y'
        · subst hy
          by_cases hf : f = f'
          · subst hf
            by_cases hd : d = d'
            · subst hd
              obtain rfl := HT.out.2 rfl
              have c_a_0 := B_a.out.cell (i := 0) (x := .int .i64 y) rfl
              have c_a_1 := B_a.out.cell (i := 1) (x := .int .i64 f) rfl
              have c_a_2 := B_a.out.cell (i := 2) (x := .string ⟨d.toArray⟩) rfl
              have c_b_0 := B_b.out.cell (i := 0) (x := .int .i64 y) rfl
              have c_b_1 := B_b.out.cell (i := 1) (x := .int .i64 f) rfl
              have c_b_2 := B_b.out.cell (i := 2) (x := .string ⟨d.toArray⟩) rfl
              go_wp2_with fail
              go_ret
              exact ⟨rfl, G.out⟩
            · have hd2 : (d == d') = false := by simpa using hd
              have ht : (t3 == t4) = false := by rw [beq_eq_false_iff_ne]; intro e; have := HT.out.1 e; exact hd (by injection this)
              have c_a_0 := B_a.out.cell (i := 0) (x := .int .i64 y) rfl
              have c_a_1 := B_a.out.cell (i := 1) (x := .int .i64 f) rfl
              have c_a_2 := B_a.out.cell (i := 2) (x := .string ⟨d.toArray⟩) rfl
              have c_b_0 := B_b.out.cell (i := 0) (x := .int .i64 y) rfl
              have c_b_1 := B_b.out.cell (i := 1) (x := .int .i64 f) rfl
              have c_b_2 := B_b.out.cell (i := 2) (x := .string ⟨d'.toArray⟩) rfl
              go_wp2_with fail
              go_ret
              exact ⟨rfl, G.out⟩
          · have hf2 : (f == f') = false := by simpa using hf
            have ht : (t3 == t4) = false := by rw [beq_eq_false_iff_ne]; intro e; have := HT.out.1 e; exact hf (by injection this)
            have c_a_0 := B_a.out.cell (i := 0) (x := .int .i64 y) rfl
            have c_a_1 := B_a.out.cell (i := 1) (x := .int .i64 f) rfl
            have c_a_2 := B_a.out.cell (i := 2) (x := .string ⟨d.toArray⟩) rfl
            have c_b_0 := B_b.out.cell (i := 0) (x := .int .i64 y) rfl
            have c_b_1 := B_b.out.cell (i := 1) (x := .int .i64 f') rfl
            have c_b_2 := B_b.out.cell (i := 2) (x := .string ⟨d'.toArray⟩) rfl
            go_wp2_with fail
            go_ret
            exact ⟨rfl, G.out⟩
        · have hy2 : (y == y') = false := by simpa using hy
          have ht : (t3 == t4) = false := by rw [beq_eq_false_iff_ne]; intro e; have := HT.out.1 e; exact hy (by injection this)
          have c_a_0 := B_a.out.cell (i := 0) (x := .int .i64 y) rfl
          have c_a_1 := B_a.out.cell (i := 1) (x := .int .i64 f) rfl
          have c_a_2 := B_a.out.cell (i := 2) (x := .string ⟨d.toArray⟩) rfl
          have c_b_0 := B_b.out.cell (i := 0) (x := .int .i64 y') rfl
          have c_b_1 := B_b.out.cell (i := 1) (x := .int .i64 f') rfl
          have c_b_2 := B_b.out.cell (i := 2) (x := .string ⟨d'.toArray⟩) rfl
          go_wp2_with fail
          go_ret
          exact ⟨rfl, G.out⟩
      · have hne : (e4 == 0) = false := by simpa using he2
        clear he2
        have hln : ((t3.length : Int) != 12 + (d.length : Int)) = false := by simp; omega
        clear ht1
        have c_a_0 := B_a.out.cell (i := 0) (x := .int .i64 y) rfl
        have c_a_1 := B_a.out.cell (i := 1) (x := .int .i64 f) rfl
        have c_a_2 := B_a.out.cell (i := 2) (x := .string ⟨d.toArray⟩) rfl
        have c_b_0 := B_b.out.cell (i := 0) (x := .int .i64 y') rfl
        have c_b_1 := B_b.out.cell (i := 1) (x := .int .i64 f') rfl
        have c_b_2 := B_b.out.cell (i := 2) (x := .string ⟨d'.toArray⟩) rfl
        go_wp2_with fail
        go_ret
        exact ⟨rfl, G.out⟩
    · have hne : (e3 == 0) = false := by simpa using he
      clear he
      have c_a_0 := B_a.out.cell (i := 0) (x := .int .i64 y) rfl
      have c_a_1 := B_a.out.cell (i := 1) (x := .int .i64 f) rfl
      have c_a_2 := B_a.out.cell (i := 2) (x := .string ⟨d.toArray⟩) rfl
      have c_b_0 := B_b.out.cell (i := 0) (x := .int .i64 y') rfl
      have c_b_1 := B_b.out.cell (i := 1) (x := .int .i64 f') rfl
      have c_b_2 := B_b.out.cell (i := 2) (x := .string ⟨d'.toArray⟩) rfl
      go_wp2_with fail
      go_ret
      exact ⟨rfl, G.out⟩

set_option maxRecDepth 10000 in
set_option maxHeartbeats 4000000 in
theorem cone_long (c x p c' x' p' y f y' f' : Int) (b b' d d' : List UInt8) (W : World) (h1 : b.length ≤ 140737488355328) (h2 : b'.length ≤ 140737488355328) (h3 : d.length ≤ 140737488355328) (h4 : d'.length ≤ 140737488355328) (h : 20000 < b.length + b'.length ∨ 20000 < d.length + d'.length) :
    Calls Try.prog 8 #[hdV ⟨c, x, p, b⟩, hdV ⟨c', x', p', b'⟩, anV ⟨y, f, d⟩, anV ⟨y', f', d'⟩] W (OK1 W) := by
  have q1 : (b.length : Int) ≤ 140737488355328 := by omega
  have q2 : (b'.length : Int) ≤ 140737488355328 := by omega
  have q3 : (d.length : Int) ≤ 140737488355328 := by omega
  have q4 : (d'.length : Int) ≤ 140737488355328 := by omega
  have key : decide (20000 < (b.length : Int) + (b'.length : Int)) = true ∨ decide (20000 < (b.length : Int) + (b'.length : Int)) = false ∧ decide (20000 < (d.length : Int) + (d'.length : Int)) = true := by
    by_cases h1 : 20000 < b.length + b'.length
    · exact .inl (by simp; omega)
    · exact .inr ⟨by simp; omega, by simp; omega⟩
  clear h h1 h2 h3 h4
  unfold hdV anV txt
  rcases key with k | ⟨k, k2⟩
  all_goals
    go_enter Try.func8, Try.ntmps8
    go_wp2_with fail
    have hb0 := Blk.made (W) 42 #[.int .i64 c, .int .i64 x, .int .i64 p, .string ⟨b.toArray⟩]
    have ga := World.grownBy_alloc (W) (.cells #[.int .i64 c, .int .i64 x, .int .i64 p, .string ⟨b.toArray⟩] 42) none
    have G := Lib.hid ga
    clear ga
    have hb1 := Blk.made (W.alloc (.cells #[.int .i64 c, .int .i64 x, .int .i64 p, .string ⟨b.toArray⟩] 42)) 42 #[.int .i64 c', .int .i64 x', .int .i64 p', .string ⟨b'.toArray⟩]
    have ga := World.grownBy_alloc (W.alloc (.cells #[.int .i64 c, .int .i64 x, .int .i64 p, .string ⟨b.toArray⟩] 42)) (.cells #[.int .i64 c', .int .i64 x', .int .i64 p', .string ⟨b'.toArray⟩] 42) none
    rw [show (W.alloc (.cells #[.int .i64 c, .int .i64 x, .int .i64 p, .string ⟨b.toArray⟩] 42)).heap.size = W.heap.size + 1 by simp] at hb1
    replace hb0 := hb0.new ga
    replace G := Lib.hid (World.grownBy.trans G.out ga)
    clear ga
    have hb2 := Blk.made ((W.alloc (.cells #[.int .i64 c, .int .i64 x, .int .i64 p, .string ⟨b.toArray⟩] 42)).alloc (.cells #[.int .i64 c', .int .i64 x', .int .i64 p', .string ⟨b'.toArray⟩] 42)) 43 #[.int .i64 y, .int .i64 f, .string ⟨d.toArray⟩]
    have ga := World.grownBy_alloc ((W.alloc (.cells #[.int .i64 c, .int .i64 x, .int .i64 p, .string ⟨b.toArray⟩] 42)).alloc (.cells #[.int .i64 c', .int .i64 x', .int .i64 p', .string ⟨b'.toArray⟩] 42)) (.cells #[.int .i64 y, .int .i64 f, .string ⟨d.toArray⟩] 43) none
    rw [show ((W.alloc (.cells #[.int .i64 c, .int .i64 x, .int .i64 p, .string ⟨b.toArray⟩] 42)).alloc (.cells #[.int .i64 c', .int .i64 x', .int .i64 p', .string ⟨b'.toArray⟩] 42)).heap.size = W.heap.size + 2 by simp] at hb2
    replace hb0 := hb0.new ga
    replace hb1 := hb1.new ga
    replace G := Lib.hid (World.grownBy.trans G.out ga)
    clear ga
    have hb3 := Blk.made (((W.alloc (.cells #[.int .i64 c, .int .i64 x, .int .i64 p, .string ⟨b.toArray⟩] 42)).alloc (.cells #[.int .i64 c', .int .i64 x', .int .i64 p', .string ⟨b'.toArray⟩] 42)).alloc (.cells #[.int .i64 y, .int .i64 f, .string ⟨d.toArray⟩] 43)) 43 #[.int .i64 y', .int .i64 f', .string ⟨d'.toArray⟩]
    have ga := World.grownBy_alloc (((W.alloc (.cells #[.int .i64 c, .int .i64 x, .int .i64 p, .string ⟨b.toArray⟩] 42)).alloc (.cells #[.int .i64 c', .int .i64 x', .int .i64 p', .string ⟨b'.toArray⟩] 42)).alloc (.cells #[.int .i64 y, .int .i64 f, .string ⟨d.toArray⟩] 43)) (.cells #[.int .i64 y', .int .i64 f', .string ⟨d'.toArray⟩] 43) none
    rw [show (((W.alloc (.cells #[.int .i64 c, .int .i64 x, .int .i64 p, .string ⟨b.toArray⟩] 42)).alloc (.cells #[.int .i64 c', .int .i64 x', .int .i64 p', .string ⟨b'.toArray⟩] 42)).alloc (.cells #[.int .i64 y, .int .i64 f, .string ⟨d.toArray⟩] 43)).heap.size = W.heap.size + 3 by simp] at hb3
    replace hb0 := hb0.new ga
    replace hb1 := hb1.new ga
    replace hb2 := hb2.new ga
    replace G := Lib.hid (World.grownBy.trans G.out ga)
    clear ga
    have B_h := Lib.hid hb0
    have B_g := Lib.hid hb1
    have B_a := Lib.hid hb2
    have B_b := Lib.hid hb3
    clear hb0 hb1 hb2 hb3
    generalize (((W.alloc (.cells #[.int .i64 c, .int .i64 x, .int .i64 p, .string ⟨b.toArray⟩] 42)).alloc (.cells #[.int .i64 c', .int .i64 x', .int .i64 p', .string ⟨b'.toArray⟩] 42)).alloc (.cells #[.int .i64 y, .int .i64 f, .string ⟨d.toArray⟩] 43)).alloc (.cells #[.int .i64 y', .int .i64 f', .string ⟨d'.toArray⟩] 43) = w0 at *
    generalize W.heap.size = K at *
    refine (works_any _).mono ?_; rintro e w1 ⟨rfl, g1⟩
    replace G := Lib.hid (World.grownBy.trans G.out g1)
    replace B_h := Lib.hid (B_h.out.new g1)
    replace B_g := Lib.hid (B_g.out.new g1)
    replace B_a := Lib.hid (B_a.out.new g1)
    replace B_b := Lib.hid (B_b.out.new g1)
    clear g1
    have c_h_0 := B_h.out.cell (i := 0) (x := .int .i64 c) rfl
    have c_h_1 := B_h.out.cell (i := 1) (x := .int .i64 x) rfl
    have c_h_2 := B_h.out.cell (i := 2) (x := .int .i64 p) rfl
    have c_h_3 := B_h.out.cell (i := 3) (x := .string ⟨b.toArray⟩) rfl
    have c_g_0 := B_g.out.cell (i := 0) (x := .int .i64 c') rfl
    have c_g_1 := B_g.out.cell (i := 1) (x := .int .i64 x') rfl
    have c_g_2 := B_g.out.cell (i := 2) (x := .int .i64 p') rfl
    have c_g_3 := B_g.out.cell (i := 3) (x := .string ⟨b'.toArray⟩) rfl
    have c_a_0 := B_a.out.cell (i := 0) (x := .int .i64 y) rfl
    have c_a_1 := B_a.out.cell (i := 1) (x := .int .i64 f) rfl
    have c_a_2 := B_a.out.cell (i := 2) (x := .string ⟨d.toArray⟩) rfl
    have c_b_0 := B_b.out.cell (i := 0) (x := .int .i64 y') rfl
    have c_b_1 := B_b.out.cell (i := 1) (x := .int .i64 f') rfl
    have c_b_2 := B_b.out.cell (i := 2) (x := .string ⟨d'.toArray⟩) rfl
    go_wp2_with fail
    clear c_h_0 c_h_1 c_h_2 c_h_3 c_g_0 c_g_1 c_g_2 c_g_3 c_a_0 c_a_1 c_a_2 c_b_0 c_b_1 c_b_2
    refine (works_any _).mono ?_; rintro e w2 ⟨rfl, g1⟩
    replace G := Lib.hid (World.grownBy.trans G.out g1)
    clear g1
    go_wp2_with fail
    go_ret
    exact ⟨rfl, G.out⟩

theorem cone_walk (v0 v1 v2 v3 : Value) (W : World) (k0 : HdInZ v0) (k1 : HdInZ v1) (k2 : AnInZ v2) (k3 : AnInZ v3) : Calls Try.prog 8 #[v0, v1, v2, v3] W fun e w' => e = .returned (.bool true) ∧ W.grownBy w' none := by
  obtain ⟨⟨c, x, p, b⟩, rfl, _, h2, h3, h4⟩ := k0
  obtain ⟨⟨c', x', p', b'⟩, rfl, _, h5, h6, h7⟩ := k1
  obtain ⟨⟨y, f, d⟩, rfl, h8, _, h9⟩ := k2
  obtain ⟨⟨y', f', d'⟩, rfl, h10, _, h11⟩ := k3
  by_cases h : 20000 < b.length + b'.length ∨ 20000 < d.length + d'.length
  · exact cone_long c x p c' x' p' y f y' f' b b' d d' W h4 h7 h9 h11 h
  · exact cone_short c x p c' x' p' y f y' f' b b' d d' W h2 h3 h5 h6 h8 h10 (by omega) (by omega)
end Go.Proofs.Ytkhlmfnfcdhceaa
