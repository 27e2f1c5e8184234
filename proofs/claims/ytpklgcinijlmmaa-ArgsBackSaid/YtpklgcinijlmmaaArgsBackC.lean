/- Results as words, the code: same. -/
import Derived.Test.YtpklgcinijlmmaaArgsBackA
namespace Go.Proofs.Ytpklgcinijlmmaa
open Go.RowKit

set_option maxRecDepth 20000 in
set_option maxHeartbeats 4000000 in
theorem same_aa_i (e1 : Int) (hh1 : Hn) (aa1 : At) (x1 : List UInt8) (n1 : Int) (f1 : Int) (u1 : Int) (d1 : Bool) (es1 : List En) (v1 : Int) (aa2 : At) (x2 : List UInt8) (n2 : Int) (f2 : Int) (u2 : Int) (d2 : Bool) (es2 : List En) (v2 : Int) (ev fv : Value) (w : World) (h1 : Ents w ev es1) (h2 : Ents w fv es2) (hne0 : aa1.k = aa2.k) (hne1 : aa1.m = aa2.m) (hne2 : aa1.l = aa2.l) (hne3 : aa1.s = aa2.s) (hne4 : aa1.mt = aa2.mt) (hne5 : aa1.ct = aa2.ct) (hne6 : ¬ aa1.i = aa2.i) :
    Calls Try.prog 36 #[.agg #[.int .i64 e1, .int .i64 hh1.s, .int .i64 hh1.i, .int .i64 hh1.g, .int .u8 aa1.k, .int .i64 aa1.m, .int .i64 aa1.l, .int .i64 aa1.s, .int .i64 aa1.mt, .int .i64 aa1.ct, .int .i64 aa1.i, .int .i64 aa1.g, .string ⟨x1.toArray⟩, .int .i64 n1, .int .i64 f1, .int .u64 u1, .bool d1, ev, .int .u64 v1], .agg #[.int .i64 e1, .int .i64 hh1.s, .int .i64 hh1.i, .int .i64 hh1.g, .int .u8 aa2.k, .int .i64 aa2.m, .int .i64 aa2.l, .int .i64 aa2.s, .int .i64 aa2.mt, .int .i64 aa2.ct, .int .i64 aa2.i, .int .i64 aa2.g, .string ⟨x2.toArray⟩, .int .i64 n2, .int .i64 f2, .int .u64 u2, .bool d2, fv, .int .u64 v2]] w fun e w' => e = .returned (.bool false) ∧ w.grownBy w' none := by
  obtain ⟨b1, b2, hg⟩ := boxes2 w 42 #[.int .i64 e1, .int .i64 hh1.s, .int .i64 hh1.i, .int .i64 hh1.g, .int .u8 aa1.k, .int .i64 aa1.m, .int .i64 aa1.l, .int .i64 aa1.s, .int .i64 aa1.mt, .int .i64 aa1.ct, .int .i64 aa1.i, .int .i64 aa1.g, .string ⟨x1.toArray⟩, .int .i64 n1, .int .i64 f1, .int .u64 u1, .bool d1, ev, .int .u64 v1] #[.int .i64 e1, .int .i64 hh1.s, .int .i64 hh1.i, .int .i64 hh1.g, .int .u8 aa2.k, .int .i64 aa2.m, .int .i64 aa2.l, .int .i64 aa2.s, .int .i64 aa2.mt, .int .i64 aa2.ct, .int .i64 aa2.i, .int .i64 aa2.g, .string ⟨x2.toArray⟩, .int .i64 n2, .int .i64 f2, .int .u64 u2, .bool d2, fv, .int .u64 v2]
  have H1 := Lib.hid (h1.new hg)
  have H2 := Lib.hid (h2.new hg)
  obtain ⟨la, lc, rfl, _⟩ := h1.form
  obtain ⟨ma, mc, rfl, _⟩ := h2.form
  have k0 := b1.cell (i := 0) (x := .int .i64 e1) rfl
  have m0 := b2.cell (i := 0) (x := .int .i64 e1) rfl
  have k1 := b1.cell (i := 1) (x := .int .i64 hh1.s) rfl
  have m1 := b2.cell (i := 1) (x := .int .i64 hh1.s) rfl
  have k2 := b1.cell (i := 2) (x := .int .i64 hh1.i) rfl
  have m2 := b2.cell (i := 2) (x := .int .i64 hh1.i) rfl
  have k3 := b1.cell (i := 3) (x := .int .i64 hh1.g) rfl
  have m3 := b2.cell (i := 3) (x := .int .i64 hh1.g) rfl
  have k4 := b1.cell (i := 4) (x := .int .u8 aa1.k) rfl
  have m4 := b2.cell (i := 4) (x := .int .u8 aa2.k) rfl
  have k5 := b1.cell (i := 5) (x := .int .i64 aa1.m) rfl
  have m5 := b2.cell (i := 5) (x := .int .i64 aa2.m) rfl
  have k6 := b1.cell (i := 6) (x := .int .i64 aa1.l) rfl
  have m6 := b2.cell (i := 6) (x := .int .i64 aa2.l) rfl
  have k7 := b1.cell (i := 7) (x := .int .i64 aa1.s) rfl
  have m7 := b2.cell (i := 7) (x := .int .i64 aa2.s) rfl
  have k8 := b1.cell (i := 8) (x := .int .i64 aa1.mt) rfl
  have m8 := b2.cell (i := 8) (x := .int .i64 aa2.mt) rfl
  have k9 := b1.cell (i := 9) (x := .int .i64 aa1.ct) rfl
  have m9 := b2.cell (i := 9) (x := .int .i64 aa2.ct) rfl
  have k10 := b1.cell (i := 10) (x := .int .i64 aa1.i) rfl
  have m10 := b2.cell (i := 10) (x := .int .i64 aa2.i) rfl
  have k11 := b1.cell (i := 11) (x := .int .i64 aa1.g) rfl
  have m11 := b2.cell (i := 11) (x := .int .i64 aa2.g) rfl
  have HG := Lib.hid hg
  clear h1 h2 hg b1 b2
  go_enter Try.func36, Try.ntmps36
  go_wp2_with fail
  go_ret
  exact ⟨rfl, by first | exact HG.out | (have h := HG.out; simp only [hne0, hne1, hne2, hne3, hne4, hne5] at h; exact h)⟩

set_option maxRecDepth 20000 in
set_option maxHeartbeats 4000000 in
theorem same_aa_g (e1 : Int) (hh1 : Hn) (aa1 : At) (x1 : List UInt8) (n1 : Int) (f1 : Int) (u1 : Int) (d1 : Bool) (es1 : List En) (v1 : Int) (aa2 : At) (x2 : List UInt8) (n2 : Int) (f2 : Int) (u2 : Int) (d2 : Bool) (es2 : List En) (v2 : Int) (ev fv : Value) (w : World) (h1 : Ents w ev es1) (h2 : Ents w fv es2) (hne0 : aa1.k = aa2.k) (hne1 : aa1.m = aa2.m) (hne2 : aa1.l = aa2.l) (hne3 : aa1.s = aa2.s) (hne4 : aa1.mt = aa2.mt) (hne5 : aa1.ct = aa2.ct) (hne6 : aa1.i = aa2.i) (hne7 : ¬ aa1.g = aa2.g) :
    Calls Try.prog 36 #[.agg #[.int .i64 e1, .int .i64 hh1.s, .int .i64 hh1.i, .int .i64 hh1.g, .int .u8 aa1.k, .int .i64 aa1.m, .int .i64 aa1.l, .int .i64 aa1.s, .int .i64 aa1.mt, .int .i64 aa1.ct, .int .i64 aa1.i, .int .i64 aa1.g, .string ⟨x1.toArray⟩, .int .i64 n1, .int .i64 f1, .int .u64 u1, .bool d1, ev, .int .u64 v1], .agg #[.int .i64 e1, .int .i64 hh1.s, .int .i64 hh1.i, .int .i64 hh1.g, .int .u8 aa2.k, .int .i64 aa2.m, .int .i64 aa2.l, .int .i64 aa2.s, .int .i64 aa2.mt, .int .i64 aa2.ct, .int .i64 aa2.i, .int .i64 aa2.g, .string ⟨x2.toArray⟩, .int .i64 n2, .int .i64 f2, .int .u64 u2, .bool d2, fv, .int .u64 v2]] w fun e w' => e = .returned (.bool false) ∧ w.grownBy w' none := by
  obtain ⟨b1, b2, hg⟩ := boxes2 w 42 #[.int .i64 e1, .int .i64 hh1.s, .int .i64 hh1.i, .int .i64 hh1.g, .int .u8 aa1.k, .int .i64 aa1.m, .int .i64 aa1.l, .int .i64 aa1.s, .int .i64 aa1.mt, .int .i64 aa1.ct, .int .i64 aa1.i, .int .i64 aa1.g, .string ⟨x1.toArray⟩, .int .i64 n1, .int .i64 f1, .int .u64 u1, .bool d1, ev, .int .u64 v1] #[.int .i64 e1, .int .i64 hh1.s, .int .i64 hh1.i, .int .i64 hh1.g, .int .u8 aa2.k, .int .i64 aa2.m, .int .i64 aa2.l, .int .i64 aa2.s, .int .i64 aa2.mt, .int .i64 aa2.ct, .int .i64 aa2.i, .int .i64 aa2.g, .string ⟨x2.toArray⟩, .int .i64 n2, .int .i64 f2, .int .u64 u2, .bool d2, fv, .int .u64 v2]
  have H1 := Lib.hid (h1.new hg)
  have H2 := Lib.hid (h2.new hg)
  obtain ⟨la, lc, rfl, _⟩ := h1.form
  obtain ⟨ma, mc, rfl, _⟩ := h2.form
  have k0 := b1.cell (i := 0) (x := .int .i64 e1) rfl
  have m0 := b2.cell (i := 0) (x := .int .i64 e1) rfl
  have k1 := b1.cell (i := 1) (x := .int .i64 hh1.s) rfl
  have m1 := b2.cell (i := 1) (x := .int .i64 hh1.s) rfl
  have k2 := b1.cell (i := 2) (x := .int .i64 hh1.i) rfl
  have m2 := b2.cell (i := 2) (x := .int .i64 hh1.i) rfl
  have k3 := b1.cell (i := 3) (x := .int .i64 hh1.g) rfl
  have m3 := b2.cell (i := 3) (x := .int .i64 hh1.g) rfl
  have k4 := b1.cell (i := 4) (x := .int .u8 aa1.k) rfl
  have m4 := b2.cell (i := 4) (x := .int .u8 aa2.k) rfl
  have k5 := b1.cell (i := 5) (x := .int .i64 aa1.m) rfl
  have m5 := b2.cell (i := 5) (x := .int .i64 aa2.m) rfl
  have k6 := b1.cell (i := 6) (x := .int .i64 aa1.l) rfl
  have m6 := b2.cell (i := 6) (x := .int .i64 aa2.l) rfl
  have k7 := b1.cell (i := 7) (x := .int .i64 aa1.s) rfl
  have m7 := b2.cell (i := 7) (x := .int .i64 aa2.s) rfl
  have k8 := b1.cell (i := 8) (x := .int .i64 aa1.mt) rfl
  have m8 := b2.cell (i := 8) (x := .int .i64 aa2.mt) rfl
  have k9 := b1.cell (i := 9) (x := .int .i64 aa1.ct) rfl
  have m9 := b2.cell (i := 9) (x := .int .i64 aa2.ct) rfl
  have k10 := b1.cell (i := 10) (x := .int .i64 aa1.i) rfl
  have m10 := b2.cell (i := 10) (x := .int .i64 aa2.i) rfl
  have k11 := b1.cell (i := 11) (x := .int .i64 aa1.g) rfl
  have m11 := b2.cell (i := 11) (x := .int .i64 aa2.g) rfl
  have HG := Lib.hid hg
  clear h1 h2 hg b1 b2
  go_enter Try.func36, Try.ntmps36
  go_wp2_with fail
  go_ret
  exact ⟨rfl, by first | exact HG.out | (have h := HG.out; simp only [hne0, hne1, hne2, hne3, hne4, hne5, hne6] at h; exact h)⟩

set_option maxRecDepth 20000 in
set_option maxHeartbeats 4000000 in
theorem same_x (e1 : Int) (hh1 : Hn) (aa1 : At) (x1 : List UInt8) (n1 : Int) (f1 : Int) (u1 : Int) (d1 : Bool) (es1 : List En) (v1 : Int) (x2 : List UInt8) (n2 : Int) (f2 : Int) (u2 : Int) (d2 : Bool) (es2 : List En) (v2 : Int) (ev fv : Value) (w : World) (h1 : Ents w ev es1) (h2 : Ents w fv es2) (hne0 : ¬ x1 = x2) :
    Calls Try.prog 36 #[.agg #[.int .i64 e1, .int .i64 hh1.s, .int .i64 hh1.i, .int .i64 hh1.g, .int .u8 aa1.k, .int .i64 aa1.m, .int .i64 aa1.l, .int .i64 aa1.s, .int .i64 aa1.mt, .int .i64 aa1.ct, .int .i64 aa1.i, .int .i64 aa1.g, .string ⟨x1.toArray⟩, .int .i64 n1, .int .i64 f1, .int .u64 u1, .bool d1, ev, .int .u64 v1], .agg #[.int .i64 e1, .int .i64 hh1.s, .int .i64 hh1.i, .int .i64 hh1.g, .int .u8 aa1.k, .int .i64 aa1.m, .int .i64 aa1.l, .int .i64 aa1.s, .int .i64 aa1.mt, .int .i64 aa1.ct, .int .i64 aa1.i, .int .i64 aa1.g, .string ⟨x2.toArray⟩, .int .i64 n2, .int .i64 f2, .int .u64 u2, .bool d2, fv, .int .u64 v2]] w fun e w' => e = .returned (.bool false) ∧ w.grownBy w' none := by
  obtain ⟨b1, b2, hg⟩ := boxes2 w 42 #[.int .i64 e1, .int .i64 hh1.s, .int .i64 hh1.i, .int .i64 hh1.g, .int .u8 aa1.k, .int .i64 aa1.m, .int .i64 aa1.l, .int .i64 aa1.s, .int .i64 aa1.mt, .int .i64 aa1.ct, .int .i64 aa1.i, .int .i64 aa1.g, .string ⟨x1.toArray⟩, .int .i64 n1, .int .i64 f1, .int .u64 u1, .bool d1, ev, .int .u64 v1] #[.int .i64 e1, .int .i64 hh1.s, .int .i64 hh1.i, .int .i64 hh1.g, .int .u8 aa1.k, .int .i64 aa1.m, .int .i64 aa1.l, .int .i64 aa1.s, .int .i64 aa1.mt, .int .i64 aa1.ct, .int .i64 aa1.i, .int .i64 aa1.g, .string ⟨x2.toArray⟩, .int .i64 n2, .int .i64 f2, .int .u64 u2, .bool d2, fv, .int .u64 v2]
  have H1 := Lib.hid (h1.new hg)
  have H2 := Lib.hid (h2.new hg)
  obtain ⟨la, lc, rfl, _⟩ := h1.form
  obtain ⟨ma, mc, rfl, _⟩ := h2.form
  have k0 := b1.cell (i := 0) (x := .int .i64 e1) rfl
  have m0 := b2.cell (i := 0) (x := .int .i64 e1) rfl
  have k1 := b1.cell (i := 1) (x := .int .i64 hh1.s) rfl
  have m1 := b2.cell (i := 1) (x := .int .i64 hh1.s) rfl
  have k2 := b1.cell (i := 2) (x := .int .i64 hh1.i) rfl
  have m2 := b2.cell (i := 2) (x := .int .i64 hh1.i) rfl
  have k3 := b1.cell (i := 3) (x := .int .i64 hh1.g) rfl
  have m3 := b2.cell (i := 3) (x := .int .i64 hh1.g) rfl
  have k4 := b1.cell (i := 4) (x := .int .u8 aa1.k) rfl
  have m4 := b2.cell (i := 4) (x := .int .u8 aa1.k) rfl
  have k5 := b1.cell (i := 5) (x := .int .i64 aa1.m) rfl
  have m5 := b2.cell (i := 5) (x := .int .i64 aa1.m) rfl
  have k6 := b1.cell (i := 6) (x := .int .i64 aa1.l) rfl
  have m6 := b2.cell (i := 6) (x := .int .i64 aa1.l) rfl
  have k7 := b1.cell (i := 7) (x := .int .i64 aa1.s) rfl
  have m7 := b2.cell (i := 7) (x := .int .i64 aa1.s) rfl
  have k8 := b1.cell (i := 8) (x := .int .i64 aa1.mt) rfl
  have m8 := b2.cell (i := 8) (x := .int .i64 aa1.mt) rfl
  have k9 := b1.cell (i := 9) (x := .int .i64 aa1.ct) rfl
  have m9 := b2.cell (i := 9) (x := .int .i64 aa1.ct) rfl
  have k10 := b1.cell (i := 10) (x := .int .i64 aa1.i) rfl
  have m10 := b2.cell (i := 10) (x := .int .i64 aa1.i) rfl
  have k11 := b1.cell (i := 11) (x := .int .i64 aa1.g) rfl
  have m11 := b2.cell (i := 11) (x := .int .i64 aa1.g) rfl
  have k12 := b1.cell (i := 12) (x := .string ⟨x1.toArray⟩) rfl
  have m12 := b2.cell (i := 12) (x := .string ⟨x2.toArray⟩) rfl
  have HG := Lib.hid hg
  clear h1 h2 hg b1 b2
  go_enter Try.func36, Try.ntmps36
  go_wp2_with fail
  go_ret
  exact ⟨rfl, HG.out⟩

end Go.Proofs.Ytpklgcinijlmmaa
namespace Go.Proofs.Ytpklgcinijlmmaa
open Go.RowKit

set_option maxRecDepth 20000 in
set_option maxHeartbeats 4000000 in
theorem same_n (e1 : Int) (hh1 : Hn) (aa1 : At) (x1 : List UInt8) (n1 : Int) (f1 : Int) (u1 : Int) (d1 : Bool) (es1 : List En) (v1 : Int) (n2 : Int) (f2 : Int) (u2 : Int) (d2 : Bool) (es2 : List En) (v2 : Int) (ev fv : Value) (w : World) (h1 : Ents w ev es1) (h2 : Ents w fv es2) (hne0 : ¬ n1 = n2) :
    Calls Try.prog 36 #[.agg #[.int .i64 e1, .int .i64 hh1.s, .int .i64 hh1.i, .int .i64 hh1.g, .int .u8 aa1.k, .int .i64 aa1.m, .int .i64 aa1.l, .int .i64 aa1.s, .int .i64 aa1.mt, .int .i64 aa1.ct, .int .i64 aa1.i, .int .i64 aa1.g, .string ⟨x1.toArray⟩, .int .i64 n1, .int .i64 f1, .int .u64 u1, .bool d1, ev, .int .u64 v1], .agg #[.int .i64 e1, .int .i64 hh1.s, .int .i64 hh1.i, .int .i64 hh1.g, .int .u8 aa1.k, .int .i64 aa1.m, .int .i64 aa1.l, .int .i64 aa1.s, .int .i64 aa1.mt, .int .i64 aa1.ct, .int .i64 aa1.i, .int .i64 aa1.g, .string ⟨x1.toArray⟩, .int .i64 n2, .int .i64 f2, .int .u64 u2, .bool d2, fv, .int .u64 v2]] w fun e w' => e = .returned (.bool false) ∧ w.grownBy w' none := by
  obtain ⟨b1, b2, hg⟩ := boxes2 w 42 #[.int .i64 e1, .int .i64 hh1.s, .int .i64 hh1.i, .int .i64 hh1.g, .int .u8 aa1.k, .int .i64 aa1.m, .int .i64 aa1.l, .int .i64 aa1.s, .int .i64 aa1.mt, .int .i64 aa1.ct, .int .i64 aa1.i, .int .i64 aa1.g, .string ⟨x1.toArray⟩, .int .i64 n1, .int .i64 f1, .int .u64 u1, .bool d1, ev, .int .u64 v1] #[.int .i64 e1, .int .i64 hh1.s, .int .i64 hh1.i, .int .i64 hh1.g, .int .u8 aa1.k, .int .i64 aa1.m, .int .i64 aa1.l, .int .i64 aa1.s, .int .i64 aa1.mt, .int .i64 aa1.ct, .int .i64 aa1.i, .int .i64 aa1.g, .string ⟨x1.toArray⟩, .int .i64 n2, .int .i64 f2, .int .u64 u2, .bool d2, fv, .int .u64 v2]
  have H1 := Lib.hid (h1.new hg)
  have H2 := Lib.hid (h2.new hg)
  obtain ⟨la, lc, rfl, _⟩ := h1.form
  obtain ⟨ma, mc, rfl, _⟩ := h2.form
  have k0 := b1.cell (i := 0) (x := .int .i64 e1) rfl
  have m0 := b2.cell (i := 0) (x := .int .i64 e1) rfl
  have k1 := b1.cell (i := 1) (x := .int .i64 hh1.s) rfl
  have m1 := b2.cell (i := 1) (x := .int .i64 hh1.s) rfl
  have k2 := b1.cell (i := 2) (x := .int .i64 hh1.i) rfl
  have m2 := b2.cell (i := 2) (x := .int .i64 hh1.i) rfl
  have k3 := b1.cell (i := 3) (x := .int .i64 hh1.g) rfl
  have m3 := b2.cell (i := 3) (x := .int .i64 hh1.g) rfl
  have k4 := b1.cell (i := 4) (x := .int .u8 aa1.k) rfl
  have m4 := b2.cell (i := 4) (x := .int .u8 aa1.k) rfl
  have k5 := b1.cell (i := 5) (x := .int .i64 aa1.m) rfl
  have m5 := b2.cell (i := 5) (x := .int .i64 aa1.m) rfl
  have k6 := b1.cell (i := 6) (x := .int .i64 aa1.l) rfl
  have m6 := b2.cell (i := 6) (x := .int .i64 aa1.l) rfl
  have k7 := b1.cell (i := 7) (x := .int .i64 aa1.s) rfl
  have m7 := b2.cell (i := 7) (x := .int .i64 aa1.s) rfl
  have k8 := b1.cell (i := 8) (x := .int .i64 aa1.mt) rfl
  have m8 := b2.cell (i := 8) (x := .int .i64 aa1.mt) rfl
  have k9 := b1.cell (i := 9) (x := .int .i64 aa1.ct) rfl
  have m9 := b2.cell (i := 9) (x := .int .i64 aa1.ct) rfl
  have k10 := b1.cell (i := 10) (x := .int .i64 aa1.i) rfl
  have m10 := b2.cell (i := 10) (x := .int .i64 aa1.i) rfl
  have k11 := b1.cell (i := 11) (x := .int .i64 aa1.g) rfl
  have m11 := b2.cell (i := 11) (x := .int .i64 aa1.g) rfl
  have k12 := b1.cell (i := 12) (x := .string ⟨x1.toArray⟩) rfl
  have m12 := b2.cell (i := 12) (x := .string ⟨x1.toArray⟩) rfl
  have k13 := b1.cell (i := 13) (x := .int .i64 n1) rfl
  have m13 := b2.cell (i := 13) (x := .int .i64 n2) rfl
  have HG := Lib.hid hg
  have hb : (n1 == n2) = false := by simpa using hne0
  clear h1 h2 hg b1 b2
  go_enter Try.func36, Try.ntmps36
  go_wp2_with fail
  go_ret
  exact ⟨rfl, HG.out⟩

set_option maxRecDepth 20000 in
set_option maxHeartbeats 4000000 in
theorem same_f (e1 : Int) (hh1 : Hn) (aa1 : At) (x1 : List UInt8) (n1 : Int) (f1 : Int) (u1 : Int) (d1 : Bool) (es1 : List En) (v1 : Int) (f2 : Int) (u2 : Int) (d2 : Bool) (es2 : List En) (v2 : Int) (ev fv : Value) (w : World) (h1 : Ents w ev es1) (h2 : Ents w fv es2) (hne0 : ¬ f1 = f2) :
    Calls Try.prog 36 #[.agg #[.int .i64 e1, .int .i64 hh1.s, .int .i64 hh1.i, .int .i64 hh1.g, .int .u8 aa1.k, .int .i64 aa1.m, .int .i64 aa1.l, .int .i64 aa1.s, .int .i64 aa1.mt, .int .i64 aa1.ct, .int .i64 aa1.i, .int .i64 aa1.g, .string ⟨x1.toArray⟩, .int .i64 n1, .int .i64 f1, .int .u64 u1, .bool d1, ev, .int .u64 v1], .agg #[.int .i64 e1, .int .i64 hh1.s, .int .i64 hh1.i, .int .i64 hh1.g, .int .u8 aa1.k, .int .i64 aa1.m, .int .i64 aa1.l, .int .i64 aa1.s, .int .i64 aa1.mt, .int .i64 aa1.ct, .int .i64 aa1.i, .int .i64 aa1.g, .string ⟨x1.toArray⟩, .int .i64 n1, .int .i64 f2, .int .u64 u2, .bool d2, fv, .int .u64 v2]] w fun e w' => e = .returned (.bool false) ∧ w.grownBy w' none := by
  obtain ⟨b1, b2, hg⟩ := boxes2 w 42 #[.int .i64 e1, .int .i64 hh1.s, .int .i64 hh1.i, .int .i64 hh1.g, .int .u8 aa1.k, .int .i64 aa1.m, .int .i64 aa1.l, .int .i64 aa1.s, .int .i64 aa1.mt, .int .i64 aa1.ct, .int .i64 aa1.i, .int .i64 aa1.g, .string ⟨x1.toArray⟩, .int .i64 n1, .int .i64 f1, .int .u64 u1, .bool d1, ev, .int .u64 v1] #[.int .i64 e1, .int .i64 hh1.s, .int .i64 hh1.i, .int .i64 hh1.g, .int .u8 aa1.k, .int .i64 aa1.m, .int .i64 aa1.l, .int .i64 aa1.s, .int .i64 aa1.mt, .int .i64 aa1.ct, .int .i64 aa1.i, .int .i64 aa1.g, .string ⟨x1.toArray⟩, .int .i64 n1, .int .i64 f2, .int .u64 u2, .bool d2, fv, .int .u64 v2]
  have H1 := Lib.hid (h1.new hg)
  have H2 := Lib.hid (h2.new hg)
  obtain ⟨la, lc, rfl, _⟩ := h1.form
  obtain ⟨ma, mc, rfl, _⟩ := h2.form
  have k0 := b1.cell (i := 0) (x := .int .i64 e1) rfl
  have m0 := b2.cell (i := 0) (x := .int .i64 e1) rfl
  have k1 := b1.cell (i := 1) (x := .int .i64 hh1.s) rfl
  have m1 := b2.cell (i := 1) (x := .int .i64 hh1.s) rfl
  have k2 := b1.cell (i := 2) (x := .int .i64 hh1.i) rfl
  have m2 := b2.cell (i := 2) (x := .int .i64 hh1.i) rfl
  have k3 := b1.cell (i := 3) (x := .int .i64 hh1.g) rfl
  have m3 := b2.cell (i := 3) (x := .int .i64 hh1.g) rfl
  have k4 := b1.cell (i := 4) (x := .int .u8 aa1.k) rfl
  have m4 := b2.cell (i := 4) (x := .int .u8 aa1.k) rfl
  have k5 := b1.cell (i := 5) (x := .int .i64 aa1.m) rfl
  have m5 := b2.cell (i := 5) (x := .int .i64 aa1.m) rfl
  have k6 := b1.cell (i := 6) (x := .int .i64 aa1.l) rfl
  have m6 := b2.cell (i := 6) (x := .int .i64 aa1.l) rfl
  have k7 := b1.cell (i := 7) (x := .int .i64 aa1.s) rfl
  have m7 := b2.cell (i := 7) (x := .int .i64 aa1.s) rfl
  have k8 := b1.cell (i := 8) (x := .int .i64 aa1.mt) rfl
  have m8 := b2.cell (i := 8) (x := .int .i64 aa1.mt) rfl
  have k9 := b1.cell (i := 9) (x := .int .i64 aa1.ct) rfl
  have m9 := b2.cell (i := 9) (x := .int .i64 aa1.ct) rfl
  have k10 := b1.cell (i := 10) (x := .int .i64 aa1.i) rfl
  have m10 := b2.cell (i := 10) (x := .int .i64 aa1.i) rfl
  have k11 := b1.cell (i := 11) (x := .int .i64 aa1.g) rfl
  have m11 := b2.cell (i := 11) (x := .int .i64 aa1.g) rfl
  have k12 := b1.cell (i := 12) (x := .string ⟨x1.toArray⟩) rfl
  have m12 := b2.cell (i := 12) (x := .string ⟨x1.toArray⟩) rfl
  have k13 := b1.cell (i := 13) (x := .int .i64 n1) rfl
  have m13 := b2.cell (i := 13) (x := .int .i64 n1) rfl
  have k14 := b1.cell (i := 14) (x := .int .i64 f1) rfl
  have m14 := b2.cell (i := 14) (x := .int .i64 f2) rfl
  have HG := Lib.hid hg
  have hb : (f1 == f2) = false := by simpa using hne0
  clear h1 h2 hg b1 b2
  go_enter Try.func36, Try.ntmps36
  go_wp2_with fail
  go_ret
  exact ⟨rfl, HG.out⟩

set_option maxRecDepth 20000 in
set_option maxHeartbeats 4000000 in
theorem same_u (e1 : Int) (hh1 : Hn) (aa1 : At) (x1 : List UInt8) (n1 : Int) (f1 : Int) (u1 : Int) (d1 : Bool) (es1 : List En) (v1 : Int) (u2 : Int) (d2 : Bool) (es2 : List En) (v2 : Int) (ev fv : Value) (w : World) (h1 : Ents w ev es1) (h2 : Ents w fv es2) (hne0 : ¬ u1 = u2) :
    Calls Try.prog 36 #[.agg #[.int .i64 e1, .int .i64 hh1.s, .int .i64 hh1.i, .int .i64 hh1.g, .int .u8 aa1.k, .int .i64 aa1.m, .int .i64 aa1.l, .int .i64 aa1.s, .int .i64 aa1.mt, .int .i64 aa1.ct, .int .i64 aa1.i, .int .i64 aa1.g, .string ⟨x1.toArray⟩, .int .i64 n1, .int .i64 f1, .int .u64 u1, .bool d1, ev, .int .u64 v1], .agg #[.int .i64 e1, .int .i64 hh1.s, .int .i64 hh1.i, .int .i64 hh1.g, .int .u8 aa1.k, .int .i64 aa1.m, .int .i64 aa1.l, .int .i64 aa1.s, .int .i64 aa1.mt, .int .i64 aa1.ct, .int .i64 aa1.i, .int .i64 aa1.g, .string ⟨x1.toArray⟩, .int .i64 n1, .int .i64 f1, .int .u64 u2, .bool d2, fv, .int .u64 v2]] w fun e w' => e = .returned (.bool false) ∧ w.grownBy w' none := by
  obtain ⟨b1, b2, hg⟩ := boxes2 w 42 #[.int .i64 e1, .int .i64 hh1.s, .int .i64 hh1.i, .int .i64 hh1.g, .int .u8 aa1.k, .int .i64 aa1.m, .int .i64 aa1.l, .int .i64 aa1.s, .int .i64 aa1.mt, .int .i64 aa1.ct, .int .i64 aa1.i, .int .i64 aa1.g, .string ⟨x1.toArray⟩, .int .i64 n1, .int .i64 f1, .int .u64 u1, .bool d1, ev, .int .u64 v1] #[.int .i64 e1, .int .i64 hh1.s, .int .i64 hh1.i, .int .i64 hh1.g, .int .u8 aa1.k, .int .i64 aa1.m, .int .i64 aa1.l, .int .i64 aa1.s, .int .i64 aa1.mt, .int .i64 aa1.ct, .int .i64 aa1.i, .int .i64 aa1.g, .string ⟨x1.toArray⟩, .int .i64 n1, .int .i64 f1, .int .u64 u2, .bool d2, fv, .int .u64 v2]
  have H1 := Lib.hid (h1.new hg)
  have H2 := Lib.hid (h2.new hg)
  obtain ⟨la, lc, rfl, _⟩ := h1.form
  obtain ⟨ma, mc, rfl, _⟩ := h2.form
  have k0 := b1.cell (i := 0) (x := .int .i64 e1) rfl
  have m0 := b2.cell (i := 0) (x := .int .i64 e1) rfl
  have k1 := b1.cell (i := 1) (x := .int .i64 hh1.s) rfl
  have m1 := b2.cell (i := 1) (x := .int .i64 hh1.s) rfl
  have k2 := b1.cell (i := 2) (x := .int .i64 hh1.i) rfl
  have m2 := b2.cell (i := 2) (x := .int .i64 hh1.i) rfl
  have k3 := b1.cell (i := 3) (x := .int .i64 hh1.g) rfl
  have m3 := b2.cell (i := 3) (x := .int .i64 hh1.g) rfl
  have k4 := b1.cell (i := 4) (x := .int .u8 aa1.k) rfl
  have m4 := b2.cell (i := 4) (x := .int .u8 aa1.k) rfl
  have k5 := b1.cell (i := 5) (x := .int .i64 aa1.m) rfl
  have m5 := b2.cell (i := 5) (x := .int .i64 aa1.m) rfl
  have k6 := b1.cell (i := 6) (x := .int .i64 aa1.l) rfl
  have m6 := b2.cell (i := 6) (x := .int .i64 aa1.l) rfl
  have k7 := b1.cell (i := 7) (x := .int .i64 aa1.s) rfl
  have m7 := b2.cell (i := 7) (x := .int .i64 aa1.s) rfl
  have k8 := b1.cell (i := 8) (x := .int .i64 aa1.mt) rfl
  have m8 := b2.cell (i := 8) (x := .int .i64 aa1.mt) rfl
  have k9 := b1.cell (i := 9) (x := .int .i64 aa1.ct) rfl
  have m9 := b2.cell (i := 9) (x := .int .i64 aa1.ct) rfl
  have k10 := b1.cell (i := 10) (x := .int .i64 aa1.i) rfl
  have m10 := b2.cell (i := 10) (x := .int .i64 aa1.i) rfl
  have k11 := b1.cell (i := 11) (x := .int .i64 aa1.g) rfl
  have m11 := b2.cell (i := 11) (x := .int .i64 aa1.g) rfl
  have k12 := b1.cell (i := 12) (x := .string ⟨x1.toArray⟩) rfl
  have m12 := b2.cell (i := 12) (x := .string ⟨x1.toArray⟩) rfl
  have k13 := b1.cell (i := 13) (x := .int .i64 n1) rfl
  have m13 := b2.cell (i := 13) (x := .int .i64 n1) rfl
  have k14 := b1.cell (i := 14) (x := .int .i64 f1) rfl
  have m14 := b2.cell (i := 14) (x := .int .i64 f1) rfl
  have k15 := b1.cell (i := 15) (x := .int .u64 u1) rfl
  have m15 := b2.cell (i := 15) (x := .int .u64 u2) rfl
  have HG := Lib.hid hg
  have hb : (u1 == u2) = false := by simpa using hne0
  clear h1 h2 hg b1 b2
  go_enter Try.func36, Try.ntmps36
  go_wp2_with fail
  go_ret
  exact ⟨rfl, HG.out⟩

end Go.Proofs.Ytpklgcinijlmmaa
namespace Go.Proofs.Ytpklgcinijlmmaa
open Go.RowKit

set_option maxRecDepth 20000 in
set_option maxHeartbeats 4000000 in
theorem same_d (e1 : Int) (hh1 : Hn) (aa1 : At) (x1 : List UInt8) (n1 : Int) (f1 : Int) (u1 : Int) (d1 : Bool) (es1 : List En) (v1 : Int) (d2 : Bool) (es2 : List En) (v2 : Int) (ev fv : Value) (w : World) (h1 : Ents w ev es1) (h2 : Ents w fv es2) (hne0 : ¬ d1 = d2) :
    Calls Try.prog 36 #[.agg #[.int .i64 e1, .int .i64 hh1.s, .int .i64 hh1.i, .int .i64 hh1.g, .int .u8 aa1.k, .int .i64 aa1.m, .int .i64 aa1.l, .int .i64 aa1.s, .int .i64 aa1.mt, .int .i64 aa1.ct, .int .i64 aa1.i, .int .i64 aa1.g, .string ⟨x1.toArray⟩, .int .i64 n1, .int .i64 f1, .int .u64 u1, .bool d1, ev, .int .u64 v1], .agg #[.int .i64 e1, .int .i64 hh1.s, .int .i64 hh1.i, .int .i64 hh1.g, .int .u8 aa1.k, .int .i64 aa1.m, .int .i64 aa1.l, .int .i64 aa1.s, .int .i64 aa1.mt, .int .i64 aa1.ct, .int .i64 aa1.i, .int .i64 aa1.g, .string ⟨x1.toArray⟩, .int .i64 n1, .int .i64 f1, .int .u64 u1, .bool d2, fv, .int .u64 v2]] w fun e w' => e = .returned (.bool false) ∧ w.grownBy w' none := by
  obtain ⟨b1, b2, hg⟩ := boxes2 w 42 #[.int .i64 e1, .int .i64 hh1.s, .int .i64 hh1.i, .int .i64 hh1.g, .int .u8 aa1.k, .int .i64 aa1.m, .int .i64 aa1.l, .int .i64 aa1.s, .int .i64 aa1.mt, .int .i64 aa1.ct, .int .i64 aa1.i, .int .i64 aa1.g, .string ⟨x1.toArray⟩, .int .i64 n1, .int .i64 f1, .int .u64 u1, .bool d1, ev, .int .u64 v1] #[.int .i64 e1, .int .i64 hh1.s, .int .i64 hh1.i, .int .i64 hh1.g, .int .u8 aa1.k, .int .i64 aa1.m, .int .i64 aa1.l, .int .i64 aa1.s, .int .i64 aa1.mt, .int .i64 aa1.ct, .int .i64 aa1.i, .int .i64 aa1.g, .string ⟨x1.toArray⟩, .int .i64 n1, .int .i64 f1, .int .u64 u1, .bool d2, fv, .int .u64 v2]
  have H1 := Lib.hid (h1.new hg)
  have H2 := Lib.hid (h2.new hg)
  obtain ⟨la, lc, rfl, _⟩ := h1.form
  obtain ⟨ma, mc, rfl, _⟩ := h2.form
  have k0 := b1.cell (i := 0) (x := .int .i64 e1) rfl
  have m0 := b2.cell (i := 0) (x := .int .i64 e1) rfl
  have k1 := b1.cell (i := 1) (x := .int .i64 hh1.s) rfl
  have m1 := b2.cell (i := 1) (x := .int .i64 hh1.s) rfl
  have k2 := b1.cell (i := 2) (x := .int .i64 hh1.i) rfl
  have m2 := b2.cell (i := 2) (x := .int .i64 hh1.i) rfl
  have k3 := b1.cell (i := 3) (x := .int .i64 hh1.g) rfl
  have m3 := b2.cell (i := 3) (x := .int .i64 hh1.g) rfl
  have k4 := b1.cell (i := 4) (x := .int .u8 aa1.k) rfl
  have m4 := b2.cell (i := 4) (x := .int .u8 aa1.k) rfl
  have k5 := b1.cell (i := 5) (x := .int .i64 aa1.m) rfl
  have m5 := b2.cell (i := 5) (x := .int .i64 aa1.m) rfl
  have k6 := b1.cell (i := 6) (x := .int .i64 aa1.l) rfl
  have m6 := b2.cell (i := 6) (x := .int .i64 aa1.l) rfl
  have k7 := b1.cell (i := 7) (x := .int .i64 aa1.s) rfl
  have m7 := b2.cell (i := 7) (x := .int .i64 aa1.s) rfl
  have k8 := b1.cell (i := 8) (x := .int .i64 aa1.mt) rfl
  have m8 := b2.cell (i := 8) (x := .int .i64 aa1.mt) rfl
  have k9 := b1.cell (i := 9) (x := .int .i64 aa1.ct) rfl
  have m9 := b2.cell (i := 9) (x := .int .i64 aa1.ct) rfl
  have k10 := b1.cell (i := 10) (x := .int .i64 aa1.i) rfl
  have m10 := b2.cell (i := 10) (x := .int .i64 aa1.i) rfl
  have k11 := b1.cell (i := 11) (x := .int .i64 aa1.g) rfl
  have m11 := b2.cell (i := 11) (x := .int .i64 aa1.g) rfl
  have k12 := b1.cell (i := 12) (x := .string ⟨x1.toArray⟩) rfl
  have m12 := b2.cell (i := 12) (x := .string ⟨x1.toArray⟩) rfl
  have k13 := b1.cell (i := 13) (x := .int .i64 n1) rfl
  have m13 := b2.cell (i := 13) (x := .int .i64 n1) rfl
  have k14 := b1.cell (i := 14) (x := .int .i64 f1) rfl
  have m14 := b2.cell (i := 14) (x := .int .i64 f1) rfl
  have k15 := b1.cell (i := 15) (x := .int .u64 u1) rfl
  have m15 := b2.cell (i := 15) (x := .int .u64 u1) rfl
  have k16 := b1.cell (i := 16) (x := .bool d1) rfl
  have m16 := b2.cell (i := 16) (x := .bool d2) rfl
  have HG := Lib.hid hg
  have hb : (d1 == d2) = false := by simpa using hne0
  clear h1 h2 hg b1 b2
  go_enter Try.func36, Try.ntmps36
  go_wp2_with fail
  go_ret
  exact ⟨rfl, HG.out⟩

set_option maxRecDepth 20000 in
set_option maxHeartbeats 4000000 in
theorem same_es (e1 : Int) (hh1 : Hn) (aa1 : At) (x1 : List UInt8) (n1 : Int) (f1 : Int) (u1 : Int) (d1 : Bool) (es1 : List En) (v1 : Int) (es2 : List En) (v2 : Int) (ev fv : Value) (w : World) (h1 : Ents w ev es1) (h2 : Ents w fv es2) (hne0 : ¬ es1 = es2) :
    Calls Try.prog 36 #[.agg #[.int .i64 e1, .int .i64 hh1.s, .int .i64 hh1.i, .int .i64 hh1.g, .int .u8 aa1.k, .int .i64 aa1.m, .int .i64 aa1.l, .int .i64 aa1.s, .int .i64 aa1.mt, .int .i64 aa1.ct, .int .i64 aa1.i, .int .i64 aa1.g, .string ⟨x1.toArray⟩, .int .i64 n1, .int .i64 f1, .int .u64 u1, .bool d1, ev, .int .u64 v1], .agg #[.int .i64 e1, .int .i64 hh1.s, .int .i64 hh1.i, .int .i64 hh1.g, .int .u8 aa1.k, .int .i64 aa1.m, .int .i64 aa1.l, .int .i64 aa1.s, .int .i64 aa1.mt, .int .i64 aa1.ct, .int .i64 aa1.i, .int .i64 aa1.g, .string ⟨x1.toArray⟩, .int .i64 n1, .int .i64 f1, .int .u64 u1, .bool d1, fv, .int .u64 v2]] w fun e w' => e = .returned (.bool false) ∧ w.grownBy w' none := by
  obtain ⟨b1, b2, hg⟩ := boxes2 w 42 #[.int .i64 e1, .int .i64 hh1.s, .int .i64 hh1.i, .int .i64 hh1.g, .int .u8 aa1.k, .int .i64 aa1.m, .int .i64 aa1.l, .int .i64 aa1.s, .int .i64 aa1.mt, .int .i64 aa1.ct, .int .i64 aa1.i, .int .i64 aa1.g, .string ⟨x1.toArray⟩, .int .i64 n1, .int .i64 f1, .int .u64 u1, .bool d1, ev, .int .u64 v1] #[.int .i64 e1, .int .i64 hh1.s, .int .i64 hh1.i, .int .i64 hh1.g, .int .u8 aa1.k, .int .i64 aa1.m, .int .i64 aa1.l, .int .i64 aa1.s, .int .i64 aa1.mt, .int .i64 aa1.ct, .int .i64 aa1.i, .int .i64 aa1.g, .string ⟨x1.toArray⟩, .int .i64 n1, .int .i64 f1, .int .u64 u1, .bool d1, fv, .int .u64 v2]
  have H1 := Lib.hid (h1.new hg)
  have H2 := Lib.hid (h2.new hg)
  obtain ⟨la, lc, rfl, _⟩ := h1.form
  obtain ⟨ma, mc, rfl, _⟩ := h2.form
  have k0 := b1.cell (i := 0) (x := .int .i64 e1) rfl
  have m0 := b2.cell (i := 0) (x := .int .i64 e1) rfl
  have k1 := b1.cell (i := 1) (x := .int .i64 hh1.s) rfl
  have m1 := b2.cell (i := 1) (x := .int .i64 hh1.s) rfl
  have k2 := b1.cell (i := 2) (x := .int .i64 hh1.i) rfl
  have m2 := b2.cell (i := 2) (x := .int .i64 hh1.i) rfl
  have k3 := b1.cell (i := 3) (x := .int .i64 hh1.g) rfl
  have m3 := b2.cell (i := 3) (x := .int .i64 hh1.g) rfl
  have k4 := b1.cell (i := 4) (x := .int .u8 aa1.k) rfl
  have m4 := b2.cell (i := 4) (x := .int .u8 aa1.k) rfl
  have k5 := b1.cell (i := 5) (x := .int .i64 aa1.m) rfl
  have m5 := b2.cell (i := 5) (x := .int .i64 aa1.m) rfl
  have k6 := b1.cell (i := 6) (x := .int .i64 aa1.l) rfl
  have m6 := b2.cell (i := 6) (x := .int .i64 aa1.l) rfl
  have k7 := b1.cell (i := 7) (x := .int .i64 aa1.s) rfl
  have m7 := b2.cell (i := 7) (x := .int .i64 aa1.s) rfl
  have k8 := b1.cell (i := 8) (x := .int .i64 aa1.mt) rfl
  have m8 := b2.cell (i := 8) (x := .int .i64 aa1.mt) rfl
  have k9 := b1.cell (i := 9) (x := .int .i64 aa1.ct) rfl
  have m9 := b2.cell (i := 9) (x := .int .i64 aa1.ct) rfl
  have k10 := b1.cell (i := 10) (x := .int .i64 aa1.i) rfl
  have m10 := b2.cell (i := 10) (x := .int .i64 aa1.i) rfl
  have k11 := b1.cell (i := 11) (x := .int .i64 aa1.g) rfl
  have m11 := b2.cell (i := 11) (x := .int .i64 aa1.g) rfl
  have k12 := b1.cell (i := 12) (x := .string ⟨x1.toArray⟩) rfl
  have m12 := b2.cell (i := 12) (x := .string ⟨x1.toArray⟩) rfl
  have k13 := b1.cell (i := 13) (x := .int .i64 n1) rfl
  have m13 := b2.cell (i := 13) (x := .int .i64 n1) rfl
  have k14 := b1.cell (i := 14) (x := .int .i64 f1) rfl
  have m14 := b2.cell (i := 14) (x := .int .i64 f1) rfl
  have k15 := b1.cell (i := 15) (x := .int .u64 u1) rfl
  have m15 := b2.cell (i := 15) (x := .int .u64 u1) rfl
  have k16 := b1.cell (i := 16) (x := .bool d1) rfl
  have m16 := b2.cell (i := 16) (x := .bool d1) rfl
  have k17 := b1.cell (i := 17) (x := .slice la es1.length lc) rfl
  have m17 := b2.cell (i := 17) (x := .slice ma es2.length mc) rfl
  have HG := Lib.hid hg
  have HEN := Lib.hid (fun w' (g : World.grownBy _ w' none) => entEq_any (.slice la es1.length lc) (.slice ma es2.length mc) es1 es2 w' (H1.out.new g) (H2.out.new g))
  rw [decide_eq_false hne0] at HEN
  clear h1 h2 hg b1 b2
  go_enter Try.func36, Try.ntmps36
  go_wp2_with fail
  refine (HEN.out _ (World.grownBy.refl _ _)).mono ?_; rintro e w3 ⟨rfl, g3⟩
  have HG3 := Lib.hid (World.grownBy.trans HG.out g3)
  clear g3
  go_wp2_with fail
  go_ret
  exact ⟨rfl, HG3.out⟩

end Go.Proofs.Ytpklgcinijlmmaa
namespace Go.Proofs.Ytpklgcinijlmmaa
open Go.RowKit

set_option maxRecDepth 20000 in
set_option maxHeartbeats 4000000 in
theorem same_v (e1 : Int) (hh1 : Hn) (aa1 : At) (x1 : List UInt8) (n1 : Int) (f1 : Int) (u1 : Int) (d1 : Bool) (es1 : List En) (v1 : Int) (v2 : Int) (ev fv : Value) (w : World) (h1 : Ents w ev es1) (h2 : Ents w fv es1) (hne0 : ¬ v1 = v2) :
    Calls Try.prog 36 #[.agg #[.int .i64 e1, .int .i64 hh1.s, .int .i64 hh1.i, .int .i64 hh1.g, .int .u8 aa1.k, .int .i64 aa1.m, .int .i64 aa1.l, .int .i64 aa1.s, .int .i64 aa1.mt, .int .i64 aa1.ct, .int .i64 aa1.i, .int .i64 aa1.g, .string ⟨x1.toArray⟩, .int .i64 n1, .int .i64 f1, .int .u64 u1, .bool d1, ev, .int .u64 v1], .agg #[.int .i64 e1, .int .i64 hh1.s, .int .i64 hh1.i, .int .i64 hh1.g, .int .u8 aa1.k, .int .i64 aa1.m, .int .i64 aa1.l, .int .i64 aa1.s, .int .i64 aa1.mt, .int .i64 aa1.ct, .int .i64 aa1.i, .int .i64 aa1.g, .string ⟨x1.toArray⟩, .int .i64 n1, .int .i64 f1, .int .u64 u1, .bool d1, fv, .int .u64 v2]] w fun e w' => e = .returned (.bool false) ∧ w.grownBy w' none := by
  obtain ⟨b1, b2, hg⟩ := boxes2 w 42 #[.int .i64 e1, .int .i64 hh1.s, .int .i64 hh1.i, .int .i64 hh1.g, .int .u8 aa1.k, .int .i64 aa1.m, .int .i64 aa1.l, .int .i64 aa1.s, .int .i64 aa1.mt, .int .i64 aa1.ct, .int .i64 aa1.i, .int .i64 aa1.g, .string ⟨x1.toArray⟩, .int .i64 n1, .int .i64 f1, .int .u64 u1, .bool d1, ev, .int .u64 v1] #[.int .i64 e1, .int .i64 hh1.s, .int .i64 hh1.i, .int .i64 hh1.g, .int .u8 aa1.k, .int .i64 aa1.m, .int .i64 aa1.l, .int .i64 aa1.s, .int .i64 aa1.mt, .int .i64 aa1.ct, .int .i64 aa1.i, .int .i64 aa1.g, .string ⟨x1.toArray⟩, .int .i64 n1, .int .i64 f1, .int .u64 u1, .bool d1, fv, .int .u64 v2]
  have H1 := Lib.hid (h1.new hg)
  have H2 := Lib.hid (h2.new hg)
  obtain ⟨la, lc, rfl, _⟩ := h1.form
  obtain ⟨ma, mc, rfl, _⟩ := h2.form
  have k0 := b1.cell (i := 0) (x := .int .i64 e1) rfl
  have m0 := b2.cell (i := 0) (x := .int .i64 e1) rfl
  have k1 := b1.cell (i := 1) (x := .int .i64 hh1.s) rfl
  have m1 := b2.cell (i := 1) (x := .int .i64 hh1.s) rfl
  have k2 := b1.cell (i := 2) (x := .int .i64 hh1.i) rfl
  have m2 := b2.cell (i := 2) (x := .int .i64 hh1.i) rfl
  have k3 := b1.cell (i := 3) (x := .int .i64 hh1.g) rfl
  have m3 := b2.cell (i := 3) (x := .int .i64 hh1.g) rfl
  have k4 := b1.cell (i := 4) (x := .int .u8 aa1.k) rfl
  have m4 := b2.cell (i := 4) (x := .int .u8 aa1.k) rfl
  have k5 := b1.cell (i := 5) (x := .int .i64 aa1.m) rfl
  have m5 := b2.cell (i := 5) (x := .int .i64 aa1.m) rfl
  have k6 := b1.cell (i := 6) (x := .int .i64 aa1.l) rfl
  have m6 := b2.cell (i := 6) (x := .int .i64 aa1.l) rfl
  have k7 := b1.cell (i := 7) (x := .int .i64 aa1.s) rfl
  have m7 := b2.cell (i := 7) (x := .int .i64 aa1.s) rfl
  have k8 := b1.cell (i := 8) (x := .int .i64 aa1.mt) rfl
  have m8 := b2.cell (i := 8) (x := .int .i64 aa1.mt) rfl
  have k9 := b1.cell (i := 9) (x := .int .i64 aa1.ct) rfl
  have m9 := b2.cell (i := 9) (x := .int .i64 aa1.ct) rfl
  have k10 := b1.cell (i := 10) (x := .int .i64 aa1.i) rfl
  have m10 := b2.cell (i := 10) (x := .int .i64 aa1.i) rfl
  have k11 := b1.cell (i := 11) (x := .int .i64 aa1.g) rfl
  have m11 := b2.cell (i := 11) (x := .int .i64 aa1.g) rfl
  have k12 := b1.cell (i := 12) (x := .string ⟨x1.toArray⟩) rfl
  have m12 := b2.cell (i := 12) (x := .string ⟨x1.toArray⟩) rfl
  have k13 := b1.cell (i := 13) (x := .int .i64 n1) rfl
  have m13 := b2.cell (i := 13) (x := .int .i64 n1) rfl
  have k14 := b1.cell (i := 14) (x := .int .i64 f1) rfl
  have m14 := b2.cell (i := 14) (x := .int .i64 f1) rfl
  have k15 := b1.cell (i := 15) (x := .int .u64 u1) rfl
  have m15 := b2.cell (i := 15) (x := .int .u64 u1) rfl
  have k16 := b1.cell (i := 16) (x := .bool d1) rfl
  have m16 := b2.cell (i := 16) (x := .bool d1) rfl
  have k17 := b1.cell (i := 17) (x := .slice la es1.length lc) rfl
  have m17 := b2.cell (i := 17) (x := .slice ma es1.length mc) rfl
  have k18 := b1.cell (i := 18) (x := .int .u64 v1) rfl
  have m18 := b2.cell (i := 18) (x := .int .u64 v2) rfl
  have HG := Lib.hid hg
  have HEN := Lib.hid (fun w' (g : World.grownBy _ w' none) => entEq_any (.slice la es1.length lc) (.slice ma es1.length mc) es1 es1 w' (H1.out.new g) (H2.out.new g))
  rw [decide_eq_true (show es1 = es1 from rfl)] at HEN
  have hb : (v1 == v2) = false := by simpa using hne0
  clear h1 h2 hg b1 b2
  go_enter Try.func36, Try.ntmps36
  go_wp2_with fail
  refine (HEN.out _ (World.grownBy.refl _ _)).mono ?_; rintro e w3 ⟨rfl, g3⟩
  have HG3 := Lib.hid (World.grownBy.trans HG.out g3)
  have k18 := g3.cell k18 (by simp)
  have m18 := g3.cell m18 (by simp)
  clear g3
  go_wp2_with fail
  go_ret
  exact ⟨rfl, HG3.out⟩

set_option maxRecDepth 20000 in
set_option maxHeartbeats 4000000 in
theorem same_all (e1 : Int) (hh1 : Hn) (aa1 : At) (x1 : List UInt8) (n1 : Int) (f1 : Int) (u1 : Int) (d1 : Bool) (es1 : List En) (v1 : Int)  (ev fv : Value) (w : World) (h1 : Ents w ev es1) (h2 : Ents w fv es1) :
    Calls Try.prog 36 #[.agg #[.int .i64 e1, .int .i64 hh1.s, .int .i64 hh1.i, .int .i64 hh1.g, .int .u8 aa1.k, .int .i64 aa1.m, .int .i64 aa1.l, .int .i64 aa1.s, .int .i64 aa1.mt, .int .i64 aa1.ct, .int .i64 aa1.i, .int .i64 aa1.g, .string ⟨x1.toArray⟩, .int .i64 n1, .int .i64 f1, .int .u64 u1, .bool d1, ev, .int .u64 v1], .agg #[.int .i64 e1, .int .i64 hh1.s, .int .i64 hh1.i, .int .i64 hh1.g, .int .u8 aa1.k, .int .i64 aa1.m, .int .i64 aa1.l, .int .i64 aa1.s, .int .i64 aa1.mt, .int .i64 aa1.ct, .int .i64 aa1.i, .int .i64 aa1.g, .string ⟨x1.toArray⟩, .int .i64 n1, .int .i64 f1, .int .u64 u1, .bool d1, fv, .int .u64 v1]] w fun e w' => e = .returned (.bool true) ∧ w.grownBy w' none := by
  obtain ⟨b1, b2, hg⟩ := boxes2 w 42 #[.int .i64 e1, .int .i64 hh1.s, .int .i64 hh1.i, .int .i64 hh1.g, .int .u8 aa1.k, .int .i64 aa1.m, .int .i64 aa1.l, .int .i64 aa1.s, .int .i64 aa1.mt, .int .i64 aa1.ct, .int .i64 aa1.i, .int .i64 aa1.g, .string ⟨x1.toArray⟩, .int .i64 n1, .int .i64 f1, .int .u64 u1, .bool d1, ev, .int .u64 v1] #[.int .i64 e1, .int .i64 hh1.s, .int .i64 hh1.i, .int .i64 hh1.g, .int .u8 aa1.k, .int .i64 aa1.m, .int .i64 aa1.l, .int .i64 aa1.s, .int .i64 aa1.mt, .int .i64 aa1.ct, .int .i64 aa1.i, .int .i64 aa1.g, .string ⟨x1.toArray⟩, .int .i64 n1, .int .i64 f1, .int .u64 u1, .bool d1, fv, .int .u64 v1]
  have H1 := Lib.hid (h1.new hg)
  have H2 := Lib.hid (h2.new hg)
  obtain ⟨la, lc, rfl, _⟩ := h1.form
  obtain ⟨ma, mc, rfl, _⟩ := h2.form
  have k0 := b1.cell (i := 0) (x := .int .i64 e1) rfl
  have m0 := b2.cell (i := 0) (x := .int .i64 e1) rfl
  have k1 := b1.cell (i := 1) (x := .int .i64 hh1.s) rfl
  have m1 := b2.cell (i := 1) (x := .int .i64 hh1.s) rfl
  have k2 := b1.cell (i := 2) (x := .int .i64 hh1.i) rfl
  have m2 := b2.cell (i := 2) (x := .int .i64 hh1.i) rfl
  have k3 := b1.cell (i := 3) (x := .int .i64 hh1.g) rfl
  have m3 := b2.cell (i := 3) (x := .int .i64 hh1.g) rfl
  have k4 := b1.cell (i := 4) (x := .int .u8 aa1.k) rfl
  have m4 := b2.cell (i := 4) (x := .int .u8 aa1.k) rfl
  have k5 := b1.cell (i := 5) (x := .int .i64 aa1.m) rfl
  have m5 := b2.cell (i := 5) (x := .int .i64 aa1.m) rfl
  have k6 := b1.cell (i := 6) (x := .int .i64 aa1.l) rfl
  have m6 := b2.cell (i := 6) (x := .int .i64 aa1.l) rfl
  have k7 := b1.cell (i := 7) (x := .int .i64 aa1.s) rfl
  have m7 := b2.cell (i := 7) (x := .int .i64 aa1.s) rfl
  have k8 := b1.cell (i := 8) (x := .int .i64 aa1.mt) rfl
  have m8 := b2.cell (i := 8) (x := .int .i64 aa1.mt) rfl
  have k9 := b1.cell (i := 9) (x := .int .i64 aa1.ct) rfl
  have m9 := b2.cell (i := 9) (x := .int .i64 aa1.ct) rfl
  have k10 := b1.cell (i := 10) (x := .int .i64 aa1.i) rfl
  have m10 := b2.cell (i := 10) (x := .int .i64 aa1.i) rfl
  have k11 := b1.cell (i := 11) (x := .int .i64 aa1.g) rfl
  have m11 := b2.cell (i := 11) (x := .int .i64 aa1.g) rfl
  have k12 := b1.cell (i := 12) (x := .string ⟨x1.toArray⟩) rfl
  have m12 := b2.cell (i := 12) (x := .string ⟨x1.toArray⟩) rfl
  have k13 := b1.cell (i := 13) (x := .int .i64 n1) rfl
  have m13 := b2.cell (i := 13) (x := .int .i64 n1) rfl
  have k14 := b1.cell (i := 14) (x := .int .i64 f1) rfl
  have m14 := b2.cell (i := 14) (x := .int .i64 f1) rfl
  have k15 := b1.cell (i := 15) (x := .int .u64 u1) rfl
  have m15 := b2.cell (i := 15) (x := .int .u64 u1) rfl
  have k16 := b1.cell (i := 16) (x := .bool d1) rfl
  have m16 := b2.cell (i := 16) (x := .bool d1) rfl
  have k17 := b1.cell (i := 17) (x := .slice la es1.length lc) rfl
  have m17 := b2.cell (i := 17) (x := .slice ma es1.length mc) rfl
  have k18 := b1.cell (i := 18) (x := .int .u64 v1) rfl
  have m18 := b2.cell (i := 18) (x := .int .u64 v1) rfl
  have HG := Lib.hid hg
  have HEN := Lib.hid (fun w' (g : World.grownBy _ w' none) => entEq_any (.slice la es1.length lc) (.slice ma es1.length mc) es1 es1 w' (H1.out.new g) (H2.out.new g))
  rw [decide_eq_true (show es1 = es1 from rfl)] at HEN
  clear h1 h2 hg b1 b2
  go_enter Try.func36, Try.ntmps36
  go_wp2_with fail
  refine (HEN.out _ (World.grownBy.refl _ _)).mono ?_; rintro e w3 ⟨rfl, g3⟩
  have HG3 := Lib.hid (World.grownBy.trans HG.out g3)
  have k18 := g3.cell k18 (by simp)
  have m18 := g3.cell m18 (by simp)
  clear g3
  go_wp2_with fail
  go_ret
  exact ⟨rfl, HG3.out⟩

end Go.Proofs.Ytpklgcinijlmmaa
