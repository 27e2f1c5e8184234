/- Results as words, the code: same. -/
import Derived.Test.YtpklgcinijlmmaaArgsBackA
namespace Go.Proofs.Ytpklgcinijlmmaa
open Go.RowKit

set_option maxRecDepth 20000 in
set_option maxHeartbeats 4000000 in
theorem same_e (e1 : Int) (hh1 : Hn) (aa1 : At) (x1 : List UInt8) (n1 : Int) (f1 : Int) (u1 : Int) (d1 : Bool) (es1 : List En) (v1 : Int) (e2 : Int) (hh2 : Hn) (aa2 : At) (x2 : List UInt8) (n2 : Int) (f2 : Int) (u2 : Int) (d2 : Bool) (es2 : List En) (v2 : Int) (ev fv : Value) (w : World) (h1 : Ents w ev es1) (h2 : Ents w fv es2) (hne0 : ¬ e1 = e2) :
    Calls Try.prog 36 #[.agg #[.int .i64 e1, .int .i64 hh1.s, .int .i64 hh1.i, .int .i64 hh1.g, .int .u8 aa1.k, .int .i64 aa1.m, .int .i64 aa1.l, .int .i64 aa1.s, .int .i64 aa1.mt, .int .i64 aa1.ct, .int .i64 aa1.i, .int .i64 aa1.g, .string ⟨x1.toArray⟩, .int .i64 n1, .int .i64 f1, .int .u64 u1, .bool d1, ev, .int .u64 v1], .agg #[.int .i64 e2, .int .i64 hh2.s, .int .i64 hh2.i, .int .i64 hh2.g, .int .u8 aa2.k, .int .i64 aa2.m, .int .i64 aa2.l, .int .i64 aa2.s, .int .i64 aa2.mt, .int .i64 aa2.ct, .int .i64 aa2.i, .int .i64 aa2.g, .string ⟨x2.toArray⟩, .int .i64 n2, .int .i64 f2, .int .u64 u2, .bool d2, fv, .int .u64 v2]] w fun e w' => e = .returned (.bool false) ∧ w.grownBy w' none := by
  obtain ⟨b1, b2, hg⟩ := boxes2 w 42 #[.int .i64 e1, .int .i64 hh1.s, .int .i64 hh1.i, .int .i64 hh1.g, .int .u8 aa1.k, .int .i64 aa1.m, .int .i64 aa1.l, .int .i64 aa1.s, .int .i64 aa1.mt, .int .i64 aa1.ct, .int .i64 aa1.i, .int .i64 aa1.g, .string ⟨x1.toArray⟩, .int .i64 n1, .int .i64 f1, .int .u64 u1, .bool d1, ev, .int .u64 v1] #[.int .i64 e2, .int .i64 hh2.s, .int .i64 hh2.i, .int .i64 hh2.g, .int .u8 aa2.k, .int .i64 aa2.m, .int .i64 aa2.l, .int .i64 aa2.s, .int .i64 aa2.mt, .int .i64 aa2.ct, .int .i64 aa2.i, .int .i64 aa2.g, .string ⟨x2.toArray⟩, .int .i64 n2, .int .i64 f2, .int .u64 u2, .bool d2, fv, .int .u64 v2]
  have H1 := Lib.hid (h1.new hg)
  have H2 := Lib.hid (h2.new hg)
  obtain ⟨la, lc, rfl, _⟩ := h1.form
  obtain ⟨ma, mc, rfl, _⟩ := h2.form
  have k0 := b1.cell (i := 0) (x := .int .i64 e1) rfl
  have m0 := b2.cell (i := 0) (x := .int .i64 e2) rfl
  have HG := Lib.hid hg
  have hb : (e1 == e2) = false := by simpa using hne0
  clear h1 h2 hg b1 b2
  go_enter Try.func36, Try.ntmps36
  go_wp2_with fail
  go_ret
  exact ⟨rfl, HG.out⟩

set_option maxRecDepth 20000 in
set_option maxHeartbeats 4000000 in
theorem same_hh_s (e1 : Int) (hh1 : Hn) (aa1 : At) (x1 : List UInt8) (n1 : Int) (f1 : Int) (u1 : Int) (d1 : Bool) (es1 : List En) (v1 : Int) (hh2 : Hn) (aa2 : At) (x2 : List UInt8) (n2 : Int) (f2 : Int) (u2 : Int) (d2 : Bool) (es2 : List En) (v2 : Int) (ev fv : Value) (w : World) (h1 : Ents w ev es1) (h2 : Ents w fv es2) (hne0 : ¬ hh1.s = hh2.s) :
    Calls Try.prog 36 #[.agg #[.int .i64 e1, .int .i64 hh1.s, .int .i64 hh1.i, .int .i64 hh1.g, .int .u8 aa1.k, .int .i64 aa1.m, .int .i64 aa1.l, .int .i64 aa1.s, .int .i64 aa1.mt, .int .i64 aa1.ct, .int .i64 aa1.i, .int .i64 aa1.g, .string ⟨x1.toArray⟩, .int .i64 n1, .int .i64 f1, .int .u64 u1, .bool d1, ev, .int .u64 v1], .agg #[.int .i64 e1, .int .i64 hh2.s, .int .i64 hh2.i, .int .i64 hh2.g, .int .u8 aa2.k, .int .i64 aa2.m, .int .i64 aa2.l, .int .i64 aa2.s, .int .i64 aa2.mt, .int .i64 aa2.ct, .int .i64 aa2.i, .int .i64 aa2.g, .string ⟨x2.toArray⟩, .int .i64 n2, .int .i64 f2, .int .u64 u2, .bool d2, fv, .int .u64 v2]] w fun e w' => e = .returned (.bool false) ∧ w.grownBy w' none := by
  obtain ⟨b1, b2, hg⟩ := boxes2 w 42 #[.int .i64 e1, .int .i64 hh1.s, .int .i64 hh1.i, .int .i64 hh1.g, .int .u8 aa1.k, .int .i64 aa1.m, .int .i64 aa1.l, .int .i64 aa1.s, .int .i64 aa1.mt, .int .i64 aa1.ct, .int .i64 aa1.i, .int .i64 aa1.g, .string ⟨x1.toArray⟩, .int .i64 n1, .int .i64 f1, .int .u64 u1, .bool d1, ev, .int .u64 v1] #[.int .i64 e1, .int .i64 hh2.s, .int .i64 hh2.i, .int .i64 hh2.g, .int .u8 aa2.k, .int .i64 aa2.m, .int .i64 aa2.l, .int .i64 aa2.s, .int .i64 aa2.mt, .int .i64 aa2.ct, .int .i64 aa2.i, .int .i64 aa2.g, .string ⟨x2.toArray⟩, .int .i64 n2, .int .i64 f2, .int .u64 u2, .bool d2, fv, .int .u64 v2]
  have H1 := Lib.hid (h1.new hg)
  have H2 := Lib.hid (h2.new hg)
  obtain ⟨la, lc, rfl, _⟩ := h1.form
  obtain ⟨ma, mc, rfl, _⟩ := h2.form
  have k0 := b1.cell (i := 0) (x := .int .i64 e1) rfl
  have m0 := b2.cell (i := 0) (x := .int .i64 e1) rfl
  have k1 := b1.cell (i := 1) (x := .int .i64 hh1.s) rfl
  have m1 := b2.cell (i := 1) (x := .int .i64 hh2.s) rfl
  have k2 := b1.cell (i := 2) (x := .int .i64 hh1.i) rfl
  have m2 := b2.cell (i := 2) (x := .int .i64 hh2.i) rfl
  have k3 := b1.cell (i := 3) (x := .int .i64 hh1.g) rfl
  have m3 := b2.cell (i := 3) (x := .int .i64 hh2.g) rfl
  have HG := Lib.hid hg
  clear h1 h2 hg b1 b2
  go_enter Try.func36, Try.ntmps36
  go_wp2_with fail
  go_ret
  exact ⟨rfl, HG.out⟩

set_option maxRecDepth 20000 in
set_option maxHeartbeats 4000000 in
theorem same_hh_i (e1 : Int) (hh1 : Hn) (aa1 : At) (x1 : List UInt8) (n1 : Int) (f1 : Int) (u1 : Int) (d1 : Bool) (es1 : List En) (v1 : Int) (hh2 : Hn) (aa2 : At) (x2 : List UInt8) (n2 : Int) (f2 : Int) (u2 : Int) (d2 : Bool) (es2 : List En) (v2 : Int) (ev fv : Value) (w : World) (h1 : Ents w ev es1) (h2 : Ents w fv es2) (hne0 : hh1.s = hh2.s) (hne1 : ¬ hh1.i = hh2.i) :
    Calls Try.prog 36 #[.agg #[.int .i64 e1, .int .i64 hh1.s, .int .i64 hh1.i, .int .i64 hh1.g, .int .u8 aa1.k, .int .i64 aa1.m, .int .i64 aa1.l, .int .i64 aa1.s, .int .i64 aa1.mt, .int .i64 aa1.ct, .int .i64 aa1.i, .int .i64 aa1.g, .string ⟨x1.toArray⟩, .int .i64 n1, .int .i64 f1, .int .u64 u1, .bool d1, ev, .int .u64 v1], .agg #[.int .i64 e1, .int .i64 hh2.s, .int .i64 hh2.i, .int .i64 hh2.g, .int .u8 aa2.k, .int .i64 aa2.m, .int .i64 aa2.l, .int .i64 aa2.s, .int .i64 aa2.mt, .int .i64 aa2.ct, .int .i64 aa2.i, .int .i64 aa2.g, .string ⟨x2.toArray⟩, .int .i64 n2, .int .i64 f2, .int .u64 u2, .bool d2, fv, .int .u64 v2]] w fun e w' => e = .returned (.bool false) ∧ w.grownBy w' none := by
  obtain ⟨b1, b2, hg⟩ := boxes2 w 42 #[.int .i64 e1, .int .i64 hh1.s, .int .i64 hh1.i, .int .i64 hh1.g, .int .u8 aa1.k, .int .i64 aa1.m, .int .i64 aa1.l, .int .i64 aa1.s, .int .i64 aa1.mt, .int .i64 aa1.ct, .int .i64 aa1.i, .int .i64 aa1.g, .string ⟨x1.toArray⟩, .int .i64 n1, .int .i64 f1, .int .u64 u1, .bool d1, ev, .int .u64 v1] #[.int .i64 e1, .int .i64 hh2.s, .int .i64 hh2.i, .int .i64 hh2.g, .int .u8 aa2.k, .int .i64 aa2.m, .int .i64 aa2.l, .int .i64 aa2.s, .int .i64 aa2.mt, .int .i64 aa2.ct, .int .i64 aa2.i, .int .i64 aa2.g, .string ⟨x2.toArray⟩, .int .i64 n2, .int .i64 f2, .int .u64 u2, .bool d2, fv, .int .u64 v2]
  have H1 := Lib.hid (h1.new hg)
  have H2 := Lib.hid (h2.new hg)
  obtain ⟨la, lc, rfl, _⟩ := h1.form
  obtain ⟨ma, mc, rfl, _⟩ := h2.form
  have k0 := b1.cell (i := 0) (x := .int .i64 e1) rfl
  have m0 := b2.cell (i := 0) (x := .int .i64 e1) rfl
  have k1 := b1.cell (i := 1) (x := .int .i64 hh1.s) rfl
  have m1 := b2.cell (i := 1) (x := .int .i64 hh2.s) rfl
  have k2 := b1.cell (i := 2) (x := .int .i64 hh1.i) rfl
  have m2 := b2.cell (i := 2) (x := .int .i64 hh2.i) rfl
  have k3 := b1.cell (i := 3) (x := .int .i64 hh1.g) rfl
  have m3 := b2.cell (i := 3) (x := .int .i64 hh2.g) rfl
  have HG := Lib.hid hg
  clear h1 h2 hg b1 b2
  go_enter Try.func36, Try.ntmps36
  go_wp2_with fail
  go_ret
  exact ⟨rfl, by first | exact HG.out | (have h := HG.out; simp only [hne0] at h; exact h)⟩

set_option maxRecDepth 20000 in
set_option maxHeartbeats 4000000 in
theorem same_hh_g (e1 : Int) (hh1 : Hn) (aa1 : At) (x1 : List UInt8) (n1 : Int) (f1 : Int) (u1 : Int) (d1 : Bool) (es1 : List En) (v1 : Int) (hh2 : Hn) (aa2 : At) (x2 : List UInt8) (n2 : Int) (f2 : Int) (u2 : Int) (d2 : Bool) (es2 : List En) (v2 : Int) (ev fv : Value) (w : World) (h1 : Ents w ev es1) (h2 : Ents w fv es2) (hne0 : hh1.s = hh2.s) (hne1 : hh1.i = hh2.i) (hne2 : ¬ hh1.g = hh2.g) :
    Calls Try.prog 36 #[.agg #[.int .i64 e1, .int .i64 hh1.s, .int .i64 hh1.i, .int .i64 hh1.g, .int .u8 aa1.k, .int .i64 aa1.m, .int .i64 aa1.l, .int .i64 aa1.s, .int .i64 aa1.mt, .int .i64 aa1.ct, .int .i64 aa1.i, .int .i64 aa1.g, .string ⟨x1.toArray⟩, .int .i64 n1, .int .i64 f1, .int .u64 u1, .bool d1, ev, .int .u64 v1], .agg #[.int .i64 e1, .int .i64 hh2.s, .int .i64 hh2.i, .int .i64 hh2.g, .int .u8 aa2.k, .int .i64 aa2.m, .int .i64 aa2.l, .int .i64 aa2.s, .int .i64 aa2.mt, .int .i64 aa2.ct, .int .i64 aa2.i, .int .i64 aa2.g, .string ⟨x2.toArray⟩, .int .i64 n2, .int .i64 f2, .int .u64 u2, .bool d2, fv, .int .u64 v2]] w fun e w' => e = .returned (.bool false) ∧ w.grownBy w' none := by
  obtain ⟨b1, b2, hg⟩ := boxes2 w 42 #[.int .i64 e1, .int .i64 hh1.s, .int .i64 hh1.i, .int .i64 hh1.g, .int .u8 aa1.k, .int .i64 aa1.m, .int .i64 aa1.l, .int .i64 aa1.s, .int .i64 aa1.mt, .int .i64 aa1.ct, .int .i64 aa1.i, .int .i64 aa1.g, .string ⟨x1.toArray⟩, .int .i64 n1, .int .i64 f1, .int .u64 u1, .bool d1, ev, .int .u64 v1] #[.int .i64 e1, .int .i64 hh2.s, .int .i64 hh2.i, .int .i64 hh2.g, .int .u8 aa2.k, .int .i64 aa2.m, .int .i64 aa2.l, .int .i64 aa2.s, .int .i64 aa2.mt, .int .i64 aa2.ct, .int .i64 aa2.i, .int .i64 aa2.g, .string ⟨x2.toArray⟩, .int .i64 n2, .int .i64 f2, .int .u64 u2, .bool d2, fv, .int .u64 v2]
  have H1 := Lib.hid (h1.new hg)
  have H2 := Lib.hid (h2.new hg)
  obtain ⟨la, lc, rfl, _⟩ := h1.form
  obtain ⟨ma, mc, rfl, _⟩ := h2.form
  have k0 := b1.cell (i := 0) (x := .int .i64 e1) rfl
  have m0 := b2.cell (i := 0) (x := .int .i64 e1) rfl
  have k1 := b1.cell (i := 1) (x := .int .i64 hh1.s) rfl
  have m1 := b2.cell (i := 1) (x := .int .i64 hh2.s) rfl
  have k2 := b1.cell (i := 2) (x := .int .i64 hh1.i) rfl
  have m2 := b2.cell (i := 2) (x := .int .i64 hh2.i) rfl
  have k3 := b1.cell (i := 3) (x := .int .i64 hh1.g) rfl
  have m3 := b2.cell (i := 3) (x := .int .i64 hh2.g) rfl
  have HG := Lib.hid hg
  clear h1 h2 hg b1 b2
  go_enter Try.func36, Try.ntmps36
  go_wp2_with fail
  go_ret
  exact ⟨rfl, by first | exact HG.out | (have h := HG.out; simp only [hne0, hne1] at h; exact h)⟩

set_option maxRecDepth 20000 in
set_option maxHeartbeats 4000000 in
theorem same_aa_k (e1 : Int) (hh1 : Hn) (aa1 : At) (x1 : List UInt8) (n1 : Int) (f1 : Int) (u1 : Int) (d1 : Bool) (es1 : List En) (v1 : Int) (aa2 : At) (x2 : List UInt8) (n2 : Int) (f2 : Int) (u2 : Int) (d2 : Bool) (es2 : List En) (v2 : Int) (ev fv : Value) (w : World) (h1 : Ents w ev es1) (h2 : Ents w fv es2) (hne0 : ¬ aa1.k = aa2.k) :
    Calls Try.prog 36 #[.agg #[.int .i64 e1, .int .i64 hh1.s, .int .i64 hh1.i, .int .i64 hh1.g, .int .u8 aa1.k, .int .i64 aa1.m, .int .i64 aa1.l, .int .i64 aa1.s, .int .i64 aa1.mt, .int .i64 aa1.ct, .int .i64 aa1.i, .int .i64 aa1.g, .string ⟨x1.toArray⟩, .int .i64 n1, .int .i64 f1, .int .u64 u1, .bool d1, ev, .int .u64 v1], .agg #[.int .i64 e1, .int .i64 hh1.s, .int .i64 hh1.i, .int .i64 hh1.g, .int .u8 aa2.k, .int .i64 aa2.m, .int .i64 aa2.l, .int .i64 aa2.s, .int .i64 aa2.mt, .int .i64 aa2.ct, .int .i64 aa2.i, .int .i64 aa2.g, .string ⟨x2.toArray⟩, .int .i64 n2, .int .i64 f2, .int .u64 u2, .bool d2, fv, .int .u64 v2]] w fun e w' => e = .returned (.bool false) ∧ w.grownBy w' none := by
  obtain ⟨b1, b2, hg⟩ := boxes2 w 42 #[.int .i64 e1, .int .i64 hh1.s, .int .i64 hh1.i, .int .i64 hh1.g, .int .u8 aa1.k, .int .i64 aa1.m, .int .i64 aa1.l, .int .i64 aa1.s, .int .i64 aa1.mt, .int .i64 aa1.ct, .int .i64 aa1.i, .int .i64 aa1.g, .string ⟨x1.toArray⟩, .int .i64 n1, .int .i64 f1, .int .u64 u1, .bool d1, ev, .int .u64 v1] #[.int .i64 e1, .int .i64 hh1.s, .int .i64 hh1.i, .int .i64 hh1.g, .int .u8 aa2.k, .int .i64 aa2.m, .int .i64 aa2.l, .int .i64 aa2.s, .int .i64 aa2.mt, .int .i64 aa2.ct, .int .i64 aa2.i, .int .i64 aa2.g, .string ⟨x2.toArray⟩, .int .i64 n2, .int .i64 f2, .int .u64 u2, .bool d2, fv, .int .u64 v2]
  have H1 := Lib.hid (h1.new hg)
  have H2 := Lib.hid (h2.new hg)
  obtain ⟨la, lc, rfl, _⟩ := h1.form
  obtain ⟨ma, mc, rfl, _⟩ := h2.form
  have k0 := b1.cell (i := 0) (x := .int .i64 e1) rfl
  have m0 := b2.cell (i := 0) (x := .int .i64 e1) rfl
  have k1 := b1.cell (i := 1) (x := .int .i64 hh1.s) rfl
  have m1 := b2.cell (i := 1) (x := .int .i64 hh1.s) rfl
  have k2 := b1.cell (i := 2) (x := .int .i64 hh1.i) rfl
  have m2 := b2.cell (i := 2) (x := .int .i64 hh1.i) rfl
  have k3 := b1.cell (i := 3) (x := .int .i64 hh1.g) rfl
  have m3 := b2.cell (i := 3) (x := .int .i64 hh1.g) rfl
  have k4 := b1.cell (i := 4) (x := .int .u8 aa1.k) rfl
  have m4 := b2.cell (i := 4) (x := .int .u8 aa2.k) rfl
  have k5 := b1.cell (i := 5) (x := .int .i64 aa1.m) rfl
  have m5 := b2.cell (i := 5) (x := .int .i64 aa2.m) rfl
  have k6 := b1.cell (i := 6) (x := .int .i64 aa1.l) rfl
  have m6 := b2.cell (i := 6) (x := .int .i64 aa2.l) rfl
  have k7 := b1.cell (i := 7) (x := .int .i64 aa1.s) rfl
  have m7 := b2.cell (i := 7) (x := .int .i64 aa2.s) rfl
  have k8 := b1.cell (i := 8) (x := .int .i64 aa1.mt) rfl
  have m8 := b2.cell (i := 8) (x := .int .i64 aa2.mt) rfl
  have k9 := b1.cell (i := 9) (x := .int .i64 aa1.ct) rfl
  have m9 := b2.cell (i := 9) (x := .int .i64 aa2.ct) rfl
  have k10 := b1.cell (i := 10) (x := .int .i64 aa1.i) rfl
  have m10 := b2.cell (i := 10) (x := .int .i64 aa2.i) rfl
  have k11 := b1.cell (i := 11) (x := .int .i64 aa1.g) rfl
  have m11 := b2.cell (i := 11) (x := .int .i64 aa2.g) rfl
  have HG := Lib.hid hg
  clear h1 h2 hg b1 b2
  go_enter Try.func36, Try.ntmps36
  go_wp2_with fail
  go_ret
  exact ⟨rfl, HG.out⟩

set_option maxRecDepth 20000 in
set_option maxHeartbeats 4000000 in
theorem same_aa_m (e1 : Int) (hh1 : Hn) (aa1 : At) (x1 : List UInt8) (n1 : Int) (f1 : Int) (u1 : Int) (d1 : Bool) (es1 : List En) (v1 : Int) (aa2 : At) (x2 : List UInt8) (n2 : Int) (f2 : Int) (u2 : Int) (d2 : Bool) (es2 : List En) (v2 : Int) (ev fv : Value) (w : World) (h1 : Ents w ev es1) (h2 : Ents w fv es2) (hne0 : aa1.k = aa2.k) (hne1 : ¬ aa1.m = aa2.m) :
    Calls Try.prog 36 #[.agg #[.int .i64 e1, .int .i64 hh1.s, .int .i64 hh1.i, .int .i64 hh1.g, .int .u8 aa1.k, .int .i64 aa1.m, .int .i64 aa1.l, .int .i64 aa1.s, .int .i64 aa1.mt, .int .i64 aa1.ct, .int .i64 aa1.i, .int .i64 aa1.g, .string ⟨x1.toArray⟩, .int .i64 n1, .int .i64 f1, .int .u64 u1, .bool d1, ev, .int .u64 v1], .agg #[.int .i64 e1, .int .i64 hh1.s, .int .i64 hh1.i, .int .i64 hh1.g, .int .u8 aa2.k, .int .i64 aa2.m, .int .i64 aa2.l, .int .i64 aa2.s, .int .i64 aa2.mt, .int .i64 aa2.ct, .int .i64 aa2.i, .int .i64 aa2.g, .string ⟨x2.toArray⟩, .int .i64 n2, .int .i64 f2, .int .u64 u2, .bool d2, fv, .int .u64 v2]] w fun e w' => e = .returned (.bool false) ∧ w.grownBy w' none := by
  obtain ⟨b1, b2, hg⟩ := boxes2 w 42 #[.int .i64 e1, .int .i64 hh1.s, .int .i64 hh1.i, .int .i64 hh1.g, .int .u8 aa1.k, .int .i64 aa1.m, .int .i64 aa1.l, .int .i64 aa1.s, .int .i64 aa1.mt, .int .i64 aa1.ct, .int .i64 aa1.i, .int .i64 aa1.g, .string ⟨x1.toArray⟩, .int .i64 n1, .int .i64 f1, .int .u64 u1, .bool d1, ev, .int .u64 v1] #[.int .i64 e1, .int .i64 hh1.s, .int .i64 hh1.i, .int .i64 hh1.g, .int .u8 aa2.k, .int .i64 aa2.m, .int .i64 aa2.l, .int .i64 aa2.s, .int .i64 aa2.mt, .int .i64 aa2.ct, .int .i64 aa2.i, .int .i64 aa2.g, .string ⟨x2.toArray⟩, .int .i64 n2, .int .i64 f2, .int .u64 u2, .bool d2, fv, .int .u64 v2]
  have H1 := Lib.hid (h1.new hg)
  have H2 := Lib.hid (h2.new hg)
  obtain ⟨la, lc, rfl, _⟩ := h1.form
  obtain ⟨ma, mc, rfl, _⟩ := h2.form
  have k0 := b1.cell (i := 0) (x := .int .i64 e1) rfl
  have m0 := b2.cell (i := 0) (x := .int .i64 e1) rfl
  have k1 := b1.cell (i := 1) (x := .int .i64 hh1.s) rfl
  have m1 := b2.cell (i := 1) (x := .int .i64 hh1.s) rfl
  have k2 := b1.cell (i := 2) (x := .int .i64 hh1.i) rfl
  have m2 := b2.cell (i := 2) (x := .int .i64 hh1.i) rfl
  have k3 := b1.cell (i := 3) (x := .int .i64 hh1.g) rfl
  have m3 := b2.cell (i := 3) (x := .int .i64 hh1.g) rfl
  have k4 := b1.cell (i := 4) (x := .int .u8 aa1.k) rfl
  have m4 := b2.cell (i := 4) (x := .int .u8 aa2.k) rfl
  have k5 := b1.cell (i := 5) (x := .int .i64 aa1.m) rfl
  have m5 := b2.cell (i := 5) (x := .int .i64 aa2.m) rfl
  have k6 := b1.cell (i := 6) (x := .int .i64 aa1.l) rfl
  have m6 := b2.cell (i := 6) (x := .int .i64 aa2.l) rfl
  have k7 := b1.cell (i := 7) (x := .int .i64 aa1.s) rfl
  have m7 := b2.cell (i := 7) (x := .int .i64 aa2.s) rfl
  have k8 := b1.cell (i := 8) (x := .int .i64 aa1.mt) rfl
  have m8 := b2.cell (i := 8) (x := .int .i64 aa2.mt) rfl
  have k9 := b1.cell (i := 9) (x := .int .i64 aa1.ct) rfl
  have m9 := b2.cell (i := 9) (x := .int .i64 aa2.ct) rfl
  have k10 := b1.cell (i := 10) (x := .int .i64 aa1.i) rfl
  have m10 := b2.cell (i := 10) (x := .int .i64 aa2.i) rfl
  have k11 := b1.cell (i := 11) (x := .int .i64 aa1.g) rfl
  have m11 := b2.cell (i := 11) (x := .int .i64 aa2.g) rfl
  have HG := Lib.hid hg
  clear h1 h2 hg b1 b2
  go_enter Try.func36, Try.ntmps36
  go_wp2_with fail
  go_ret
  exact ⟨rfl, by first | exact HG.out | (have h := HG.out; simp only [hne0] at h; exact h)⟩

end Go.Proofs.Ytpklgcinijlmmaa
namespace Go.Proofs.Ytpklgcinijlmmaa
open Go.RowKit

set_option maxRecDepth 20000 in
set_option maxHeartbeats 4000000 in
theorem same_aa_l (e1 : Int) (hh1 : Hn) (aa1 : At) (x1 : List UInt8) (n1 : Int) (f1 : Int) (u1 : Int) (d1 : Bool) (es1 : List En) (v1 : Int) (aa2 : At) (x2 : List UInt8) (n2 : Int) (f2 : Int) (u2 : Int) (d2 : Bool) (es2 : List En) (v2 : Int) (ev fv : Value) (w : World) (h1 : Ents w ev es1) (h2 : Ents w fv es2) (hne0 : aa1.k = aa2.k) (hne1 : aa1.m = aa2.m) (hne2 : ¬ aa1.l = aa2.l) :
    Calls Try.prog 36 #[.agg #[.int .i64 e1, .int .i64 hh1.s, .int .i64 hh1.i, .int .i64 hh1.g, .int .u8 aa1.k, .int .i64 aa1.m, .int .i64 aa1.l, .int .i64 aa1.s, .int .i64 aa1.mt, .int .i64 aa1.ct, .int .i64 aa1.i, .int .i64 aa1.g, .string ⟨x1.toArray⟩, .int .i64 n1, .int .i64 f1, .int .u64 u1, .bool d1, ev, .int .u64 v1], .agg #[.int .i64 e1, .int .i64 hh1.s, .int .i64 hh1.i, .int .i64 hh1.g, .int .u8 aa2.k, .int .i64 aa2.m, .int .i64 aa2.l, .int .i64 aa2.s, .int .i64 aa2.mt, .int .i64 aa2.ct, .int .i64 aa2.i, .int .i64 aa2.g, .string ⟨x2.toArray⟩, .int .i64 n2, .int .i64 f2, .int .u64 u2, .bool d2, fv, .int .u64 v2]] w fun e w' => e = .returned (.bool false) ∧ w.grownBy w' none := by
  obtain ⟨b1, b2, hg⟩ := boxes2 w 42 #[.int .i64 e1, .int .i64 hh1.s, .int .i64 hh1.i, .int .i64 hh1.g, .int .u8 aa1.k, .int .i64 aa1.m, .int .i64 aa1.l, .int .i64 aa1.s, .int .i64 aa1.mt, .int .i64 aa1.ct, .int .i64 aa1.i, .int .i64 aa1.g, .string ⟨x1.toArray⟩, .int .i64 n1, .int .i64 f1, .int .u64 u1, .bool d1, ev, .int .u64 v1] #[.int .i64 e1, .int .i64 hh1.s, .int .i64 hh1.i, .int .i64 hh1.g, .int .u8 aa2.k, .int .i64 aa2.m, .int .i64 aa2.l, .int .i64 aa2.s, .int .i64 aa2.mt, .int .i64 aa2.ct, .int .i64 aa2.i, .int .i64 aa2.g, .string ⟨x2.toArray⟩, .int .i64 n2, .int .i64 f2, .int .u64 u2, .bool d2, fv, .int .u64 v2]
  have H1 := Lib.hid (h1.new hg)
  have H2 := Lib.hid (h2.new hg)
  obtain ⟨la, lc, rfl, _⟩ := h1.form
  obtain ⟨ma, mc, rfl, _⟩ := h2.form
  have k0 := b1.cell (i := 0) (x := .int .i64 e1) rfl
  have m0 := b2.cell (i := 0) (x := .int .i64 e1) rfl
  have k1 := b1.cell (i := 1) (x := .int .i64 hh1.s) rfl
  have m1 := b2.cell (i := 1) (x := .int .i64 hh1.s) rfl
  have k2 := b1.cell (i := 2) (x := .int .i64 hh1.i) rfl
  have m2 := b2.cell (i := 2) (x := .int .i64 hh1.i) rfl
  have k3 := b1.cell (i := 3) (x := .int .i64 hh1.g) rfl
  have m3 := b2.cell (i := 3) (x := .int .i64 hh1.g) rfl
  have k4 := b1.cell (i := 4) (x := .int .u8 aa1.k) rfl
  have m4 := b2.cell (i := 4) (x := .int .u8 aa2.k) rfl
  have k5 := b1.cell (i := 5) (x := .int .i64 aa1.m) rfl
  have m5 := b2.cell (i := 5) (x := .int .i64 aa2.m) rfl
  have k6 := b1.cell (i := 6) (x := .int .i64 aa1.l) rfl
  have m6 := b2.cell (i := 6) (x := .int .i64 aa2.l) rfl
  have k7 := b1.cell (i := 7) (x := .int .i64 aa1.s) rfl
  have m7 := b2.cell (i := 7) (x := .int .i64 aa2.s) rfl
  have k8 := b1.cell (i := 8) (x := .int .i64 aa1.mt) rfl
  have m8 := b2.cell (i := 8) (x := .int .i64 aa2.mt) rfl
  have k9 := b1.cell (i := 9) (x := .int .i64 aa1.ct) rfl
  have m9 := b2.cell (i := 9) (x := .int .i64 aa2.ct) rfl
  have k10 := b1.cell (i := 10) (x := .int .i64 aa1.i) rfl
  have m10 := b2.cell (i := 10) (x := .int .i64 aa2.i) rfl
  have k11 := b1.cell (i := 11) (x := .int .i64 aa1.g) rfl
  have m11 := b2.cell (i := 11) (x := .int .i64 aa2.g) rfl
  have HG := Lib.hid hg
  clear h1 h2 hg b1 b2
  go_enter Try.func36, Try.ntmps36
  go_wp2_with fail
  go_ret
  exact ⟨rfl, by first | exact HG.out | (have h := HG.out; simp only [hne0, hne1] at h; exact h)⟩

set_option maxRecDepth 20000 in
set_option maxHeartbeats 4000000 in
theorem same_aa_s (e1 : Int) (hh1 : Hn) (aa1 : At) (x1 : List UInt8) (n1 : Int) (f1 : Int) (u1 : Int) (d1 : Bool) (es1 : List En) (v1 : Int) (aa2 : At) (x2 : List UInt8) (n2 : Int) (f2 : Int) (u2 : Int) (d2 : Bool) (es2 : List En) (v2 : Int) (ev fv : Value) (w : World) (h1 : Ents w ev es1) (h2 : Ents w fv es2) (hne0 : aa1.k = aa2.k) (hne1 : aa1.m = aa2.m) (hne2 : aa1.l = aa2.l) (hne3 : ¬ aa1.s = aa2.s) :
    Calls Try.prog 36 #[.agg #[.int .i64 e1, .int .i64 hh1.s, .int .i64 hh1.i, .int .i64 hh1.g, .int .u8 aa1.k, .int .i64 aa1.m, .int .i64 aa1.l, .int .i64 aa1.s, .int .i64 aa1.mt, .int .i64 aa1.ct, .int .i64 aa1.i, .int .i64 aa1.g, .string ⟨x1.toArray⟩, .int .i64 n1, .int .i64 f1, .int .u64 u1, .bool d1, ev, .int .u64 v1], .agg #[.int .i64 e1, .int .i64 hh1.s, .int .i64 hh1.i, .int .i64 hh1.g, .int .u8 aa2.k, .int .i64 aa2.m, .int .i64 aa2.l, .int .i64 aa2.s, .int .i64 aa2.mt, .int .i64 aa2.ct, .int .i64 aa2.i, .int .i64 aa2.g, .string ⟨x2.toArray⟩, .int .i64 n2, .int .i64 f2, .int .u64 u2, .bool d2, fv, .int .u64 v2]] w fun e w' => e = .returned (.bool false) ∧ w.grownBy w' none := by
  obtain ⟨b1, b2, hg⟩ := boxes2 w 42 #[.int .i64 e1, .int .i64 hh1.s, .int .i64 hh1.i, .int .i64 hh1.g, .int .u8 aa1.k, .int .i64 aa1.m, .int .i64 aa1.l, .int .i64 aa1.s, .int .i64 aa1.mt, .int .i64 aa1.ct, .int .i64 aa1.i, .int .i64 aa1.g, .string ⟨x1.toArray⟩, .int .i64 n1, .int .i64 f1, .int .u64 u1, .bool d1, ev, .int .u64 v1] #[.int .i64 e1, .int .i64 hh1.s, .int .i64 hh1.i, .int .i64 hh1.g, .int .u8 aa2.k, .int .i64 aa2.m, .int .i64 aa2.l, .int .i64 aa2.s, .int .i64 aa2.mt, .int .i64 aa2.ct, .int .i64 aa2.i, .int .i64 aa2.g, .string ⟨x2.toArray⟩, .int .i64 n2, .int .i64 f2, .int .u64 u2, .bool d2, fv, .int .u64 v2]
  have H1 := Lib.hid (h1.new hg)
  have H2 := Lib.hid (h2.new hg)
  obtain ⟨la, lc, rfl, _⟩ := h1.form
  obtain ⟨ma, mc, rfl, _⟩ := h2.form
  have k0 := b1.cell (i := 0) (x := .int .i64 e1) rfl
  have m0 := b2.cell (i := 0) (x := .int .i64 e1) rfl
  have k1 := b1.cell (i := 1) (x := .int .i64 hh1.s) rfl
  have m1 := b2.cell (i := 1) (x := .int .i64 hh1.s) rfl
  have k2 := b1.cell (i := 2) (x := .int .i64 hh1.i) rfl
  have m2 := b2.cell (i := 2) (x := .int .i64 hh1.i) rfl
  have k3 := b1.cell (i := 3) (x := .int .i64 hh1.g) rfl
  have m3 := b2.cell (i := 3) (x := .int .i64 hh1.g) rfl
  have k4 := b1.cell (i := 4) (x := .int .u8 aa1.k) rfl
  have m4 := b2.cell (i := 4) (x := .int .u8 aa2.k) rfl
  have k5 := b1.cell (i := 5) (x := .int .i64 aa1.m) rfl
  have m5 := b2.cell (i := 5) (x := .int .i64 aa2.m) rfl
  have k6 := b1.cell (i := 6) (x := .int .i64 aa1.l) rfl
  have m6 := b2.cell (i := 6) (x := .int .i64 aa2.l) rfl
  have k7 := b1.cell (i := 7) (x := .int .i64 aa1.s) rfl
  have m7 := b2.cell (i := 7) (x := .int .i64 aa2.s) rfl
  have k8 := b1.cell (i := 8) (x := .int .i64 aa1.mt) rfl
  have m8 := b2.cell (i := 8) (x := .int .i64 aa2.mt) rfl
  have k9 := b1.cell (i := 9) (x := .int .i64 aa1.ct) rfl
  have m9 := b2.cell (i := 9) (x := .int .i64 aa2.ct) rfl
  have k10 := b1.cell (i := 10) (x := .int .i64 aa1.i) rfl
  have m10 := b2.cell (i := 10) (x := .int .i64 aa2.i) rfl
  have k11 := b1.cell (i := 11) (x := .int .i64 aa1.g) rfl
  have m11 := b2.cell (i := 11) (x := .int .i64 aa2.g) rfl
  have HG := Lib.hid hg
  clear h1 h2 hg b1 b2
  go_enter Try.func36, Try.ntmps36
  go_wp2_with fail
  go_ret
  exact ⟨rfl, by first | exact HG.out | (have h := HG.out; simp only [hne0, hne1, hne2] at h; exact h)⟩

set_option maxRecDepth 20000 in
set_option maxHeartbeats 4000000 in
theorem same_aa_mt (e1 : Int) (hh1 : Hn) (aa1 : At) (x1 : List UInt8) (n1 : Int) (f1 : Int) (u1 : Int) (d1 : Bool) (es1 : List En) (v1 : Int) (aa2 : At) (x2 : List UInt8) (n2 : Int) (f2 : Int) (u2 : Int) (d2 : Bool) (es2 : List En) (v2 : Int) (ev fv : Value) (w : World) (h1 : Ents w ev es1) (h2 : Ents w fv es2) (hne0 : aa1.k = aa2.k) (hne1 : aa1.m = aa2.m) (hne2 : aa1.l = aa2.l) (hne3 : aa1.s = aa2.s) (hne4 : ¬ aa1.mt = aa2.mt) :
    Calls Try.prog 36 #[.agg #[.int .i64 e1, .int .i64 hh1.s, .int .i64 hh1.i, .int .i64 hh1.g, .int .u8 aa1.k, .int .i64 aa1.m, .int .i64 aa1.l, .int .i64 aa1.s, .int .i64 aa1.mt, .int .i64 aa1.ct, .int .i64 aa1.i, .int .i64 aa1.g, .string ⟨x1.toArray⟩, .int .i64 n1, .int .i64 f1, .int .u64 u1, .bool d1, ev, .int .u64 v1], .agg #[.int .i64 e1, .int .i64 hh1.s, .int .i64 hh1.i, .int .i64 hh1.g, .int .u8 aa2.k, .int .i64 aa2.m, .int .i64 aa2.l, .int .i64 aa2.s, .int .i64 aa2.mt, .int .i64 aa2.ct, .int .i64 aa2.i, .int .i64 aa2.g, .string ⟨x2.toArray⟩, .int .i64 n2, .int .i64 f2, .int .u64 u2, .bool d2, fv, .int .u64 v2]] w fun e w' => e = .returned (.bool false) ∧ w.grownBy w' none := by
  obtain ⟨b1, b2, hg⟩ := boxes2 w 42 #[.int .i64 e1, .int .i64 hh1.s, .int .i64 hh1.i, .int .i64 hh1.g, .int .u8 aa1.k, .int .i64 aa1.m, .int .i64 aa1.l, .int .i64 aa1.s, .int .i64 aa1.mt, .int .i64 aa1.ct, .int .i64 aa1.i, .int .i64 aa1.g, .string ⟨x1.toArray⟩, .int .i64 n1, .int .i64 f1, .int .u64 u1, .bool d1, ev, .int .u64 v1] #[.int .i64 e1, .int .i64 hh1.s, .int .i64 hh1.i, .int .i64 hh1.g, .int .u8 aa2.k, .int .i64 aa2.m, .int .i64 aa2.l, .int .i64 aa2.s, .int .i64 aa2.mt, .int .i64 aa2.ct, .int .i64 aa2.i, .int .i64 aa2.g, .string ⟨x2.toArray⟩, .int .i64 n2, .int .i64 f2, .int .u64 u2, .bool d2, fv, .int .u64 v2]
  have H1 := Lib.hid (h1.new hg)
  have H2 := Lib.hid (h2.new hg)
  obtain ⟨la, lc, rfl, _⟩ := h1.form
  obtain ⟨ma, mc, rfl, _⟩ := h2.form
  have k0 := b1.cell (i := 0) (x := .int .i64 e1) rfl
  have m0 := b2.cell (i := 0) (x := .int .i64 e1) rfl
  have k1 := b1.cell (i := 1) (x := .int .i64 hh1.s) rfl
  have m1 := b2.cell (i := 1) (x := .int .i64 hh1.s) rfl
  have k2 := b1.cell (i := 2) (x := .int .i64 hh1.i) rfl
  have m2 := b2.cell (i := 2) (x := .int .i64 hh1.i) rfl
  have k3 := b1.cell (i := 3) (x := .int .i64 hh1.g) rfl
  have m3 := b2.cell (i := 3) (x := .int .i64 hh1.g) rfl
  have k4 := b1.cell (i := 4) (x := .int .u8 aa1.k) rfl
  have m4 := b2.cell (i := 4) (x := .int .u8 aa2.k) rfl
  have k5 := b1.cell (i := 5) (x := .int .i64 aa1.m) rfl
  have m5 := b2.cell (i := 5) (x := .int .i64 aa2.m) rfl
  have k6 := b1.cell (i := 6) (x := .int .i64 aa1.l) rfl
  have m6 := b2.cell (i := 6) (x := .int .i64 aa2.l) rfl
  have k7 := b1.cell (i := 7) (x := .int .i64 aa1.s) rfl
  have m7 := b2.cell (i := 7) (x := .int .i64 aa2.s) rfl
  have k8 := b1.cell (i := 8) (x := .int .i64 aa1.mt) rfl
  have m8 := b2.cell (i := 8) (x := .int .i64 aa2.mt) rfl
  have k9 := b1.cell (i := 9) (x := .int .i64 aa1.ct) rfl
  have m9 := b2.cell (i := 9) (x := .int .i64 aa2.ct) rfl
  have k10 := b1.cell (i := 10) (x := .int .i64 aa1.i) rfl
  have m10 := b2.cell (i := 10) (x := .int .i64 aa2.i) rfl
  have k11 := b1.cell (i := 11) (x := .int .i64 aa1.g) rfl
  have m11 := b2.cell (i := 11) (x := .int .i64 aa2.g) rfl
  have HG := Lib.hid hg
  clear h1 h2 hg b1 b2
  go_enter Try.func36, Try.ntmps36
  go_wp2_with fail
  go_ret
  exact ⟨rfl, by first | exact HG.out | (have h := HG.out; simp only [hne0, hne1, hne2, hne3] at h; exact h)⟩

set_option maxRecDepth 20000 in
set_option maxHeartbeats 4000000 in
theorem same_aa_ct (e1 : Int) (hh1 : Hn) (aa1 : At) (x1 : List UInt8) (n1 : Int) (f1 : Int) (u1 : Int) (d1 : Bool) (es1 : List En) (v1 : Int) (aa2 : At) (x2 : List UInt8) (n2 : Int) (f2 : Int) (u2 : Int) (d2 : Bool) (es2 : List En) (v2 : Int) (ev fv : Value) (w : World) (h1 : Ents w ev es1) (h2 : Ents w fv es2) (hne0 : aa1.k = aa2.k) (hne1 : aa1.m = aa2.m) (hne2 : aa1.l = aa2.l) (hne3 : aa1.s = aa2.s) (hne4 : aa1.mt = aa2.mt) (hne5 : ¬ aa1.ct = aa2.ct) :
    Calls Try.prog 36 #[.agg #[.int .i64 e1, .int .i64 hh1.s, .int .i64 hh1.i, .int .i64 hh1.g, .int .u8 aa1.k, .int .i64 aa1.m, .int .i64 aa1.l, .int .i64 aa1.s, .int .i64 aa1.mt, .int .i64 aa1.ct, .int .i64 aa1.i, .int .i64 aa1.g, .string ⟨x1.toArray⟩, .int .i64 n1, .int .i64 f1, .int .u64 u1, .bool d1, ev, .int .u64 v1], .agg #[.int .i64 e1, .int .i64 hh1.s, .int .i64 hh1.i, .int .i64 hh1.g, .int .u8 aa2.k, .int .i64 aa2.m, .int .i64 aa2.l, .int .i64 aa2.s, .int .i64 aa2.mt, .int .i64 aa2.ct, .int .i64 aa2.i, .int .i64 aa2.g, .string ⟨x2.toArray⟩, .int .i64 n2, .int .i64 f2, .int .u64 u2, .bool d2, fv, .int .u64 v2]] w fun e w' => e = .returned (.bool false) ∧ w.grownBy w' none := by
  obtain ⟨b1, b2, hg⟩ := boxes2 w 42 #[.int .i64 e1, .int .i64 hh1.s, .int .i64 hh1.i, .int .i64 hh1.g, .int .u8 aa1.k, .int .i64 aa1.m, .int .i64 aa1.l, .int .i64 aa1.s, .int .i64 aa1.mt, .int .i64 aa1.ct, .int .i64 aa1.i, .int .i64 aa1.g, .string ⟨x1.toArray⟩, .int .i64 n1, .int .i64 f1, .int .u64 u1, .bool d1, ev, .int .u64 v1] #[.int .i64 e1, .int .i64 hh1.s, .int .i64 hh1.i, .int .i64 hh1.g, .int .u8 aa2.k, .int .i64 aa2.m, .int .i64 aa2.l, .int .i64 aa2.s, .int .i64 aa2.mt, .int .i64 aa2.ct, .int .i64 aa2.i, .int .i64 aa2.g, .string ⟨x2.toArray⟩, .int .i64 n2, .int .i64 f2, .int .u64 u2, .bool d2, fv, .int .u64 v2]
  have H1 := Lib.hid (h1.new hg)
  have H2 := Lib.hid (h2.new hg)
  obtain ⟨la, lc, rfl, _⟩ := h1.form
  obtain ⟨ma, mc, rfl, _⟩ := h2.form
  have k0 := b1.cell (i := 0) (x := .int .i64 e1) rfl
  have m0 := b2.cell (i := 0) (x := .int .i64 e1) rfl
  have k1 := b1.cell (i := 1) (x := .int .i64 hh1.s) rfl
  have m1 := b2.cell (i := 1) (x := .int .i64 hh1.s) rfl
  have k2 := b1.cell (i := 2) (x := .int .i64 hh1.i) rfl
  have m2 := b2.cell (i := 2) (x := .int .i64 hh1.i) rfl
  have k3 := b1.cell (i := 3) (x := .int .i64 hh1.g) rfl
  have m3 := b2.cell (i := 3) (x := .int .i64 hh1.g) rfl
  have k4 := b1.cell (i := 4) (x := .int .u8 aa1.k) rfl
  have m4 := b2.cell (i := 4) (x := .int .u8 aa2.k) rfl
  have k5 := b1.cell (i := 5) (x := .int .i64 aa1.m) rfl
  have m5 := b2.cell (i := 5) (x := .int .i64 aa2.m) rfl
  have k6 := b1.cell (i := 6) (x := .int .i64 aa1.l) rfl
  have m6 := b2.cell (i := 6) (x := .int .i64 aa2.l) rfl
  have k7 := b1.cell (i := 7) (x := .int .i64 aa1.s) rfl
  have m7 := b2.cell (i := 7) (x := .int .i64 aa2.s) rfl
  have k8 := b1.cell (i := 8) (x := .int .i64 aa1.mt) rfl
  have m8 := b2.cell (i := 8) (x := .int .i64 aa2.mt) rfl
  have k9 := b1.cell (i := 9) (x := .int .i64 aa1.ct) rfl
  have m9 := b2.cell (i := 9) (x := .int .i64 aa2.ct) rfl
  have k10 := b1.cell (i := 10) (x := .int .i64 aa1.i) rfl
  have m10 := b2.cell (i := 10) (x := .int .i64 aa2.i) rfl
  have k11 := b1.cell (i := 11) (x := .int .i64 aa1.g) rfl
  have m11 := b2.cell (i := 11) (x := .int .i64 aa2.g) rfl
  have HG := Lib.hid hg
  clear h1 h2 hg b1 b2
  go_enter Try.func36, Try.ntmps36
  go_wp2_with fail
  go_ret
  exact ⟨rfl, by first | exact HG.out | (have h := HG.out; simp only [hne0, hne1, hne2, hne3, hne4] at h; exact h)⟩

end Go.Proofs.Ytpklgcinijlmmaa
