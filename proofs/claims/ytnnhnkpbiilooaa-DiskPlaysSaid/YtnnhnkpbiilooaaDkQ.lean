/- disk: works: the examples. -/
import Derived.Test.YtnnhnkpbiilooaaDkO
namespace Go.Proofs.Ytnnhnkpbiilooaa
open Go.RowKit Go.Maps

/-- What a call leaves that works on one of several disks, told. -/
def LD (W w : World) (O : List Nat) (l : List (Nat × DS)) (z : Int) (e : Ending) (w' : World) : Prop := e = .returned (.int .i64 z) ∧ Law W w' O l ∧ KeptD w w'
section
variable {W w : World} {O : List Nat} {l l' : List (Nat × DS)} {p : Nat} {s s' : DS} {z : Int}
theorem dWrite (h : Law W w O l) (i : Nat) (hi : l[i]? = some (p, s)) (hm : s.m ≤ 100000000) (k : Int) (hk : -9223372036854775808 ≤ k ∧ k ≤ 9223372036854775807) (b : Bk) (hr : s.write k b = (s', z)) (hl : l.set i (p, s') = l') : Calls Try.prog 14 #[dptr p, .int .i64 k, .agg b.v] w (LD W w O l' z) := by
  have := lWrite h hi hm k hk b
  rw [hr] at this
  subst hl
  exact this
theorem dFlush (h : Law W w O l) (i : Nat) (hi : l[i]? = some (p, s)) (hm : s.m ≤ 1000000000) (hr : s.flush = (s', z)) (hl : l.set i (p, s') = l') : Calls Try.prog 18 #[dptr p] w (LD W w O l' z) := by
  have := lFlush h hi hm
  rw [hr] at this
  subst hl
  exact this
theorem dCut (h : Law W w O l) (i : Nat) (hi : l[i]? = some (p, s)) (k : Int) (hk : -9223372036854775808 ≤ k ∧ k ≤ 9223372036854775807) {v : Value} {ks : List Bool} (hv : Bls w v ks) (hkl : ks.length ≤ 140737488355328) (hr : s.cut k ks = (s', z)) (hl : l.set i (p, s') = l') : Calls Try.prog 16 #[dptr p, .int .i64 k, v] w (LD W w O l' z) := by
  have := lCut h hi k hk hv hkl
  rw [hr] at this
  subst hl
  exact this
theorem dFail (h : Law W w O l) (i : Nat) (hi : l[i]? = some (p, s)) (hm : s.m ≤ 1000000000) {v : Value} {ks : List Bool} (hv : Bls w v ks) (hr : s.fail ks = (s', z)) (hl : l.set i (p, s') = l') : Calls Try.prog 21 #[dptr p, v] w (LD W w O l' z) := by
  have := lFail h hi hm hv
  rw [hr] at this
  subst hl
  exact this
theorem dIs (h : Law W w O l) (i : Nat) (hi : l[i]? = some (p, s)) (k : Int) (hk : -9223372036854775808 ≤ k ∧ k ≤ 9223372036854775807) (c : UInt8) (n : Int) (hn : (c.toNat : Int) = n) (r : Bk × Int) (hr : s.read k = r) (d : Bool) (hd : isB r c = d) : Calls Try.prog 17 #[dptr p, .int .i64 k, .int .u8 n] w (Asks w d) := by
  have := lIs h hi k hk c
  rw [hr, hn, hd] at this
  exact this
theorem block_lit (c : UInt8) (n : Int) (hn : (c.toNat : Int) = n) (w : World) : Calls Try.prog 15 #[.int .u8 n] w (Block w (Bk.of c)) := hn ▸ block_any c w
end
theorem isB_of (c : UInt8) (h : c ≠ 0) : isB (Bk.of c, 0) c = true := by simp [isB, Bk.want, h]
theorem isB_zero : isB (Bk.zero, 0) 0 = true := by simp [isB, Bk.want]
theorem Bls.nil (w : World) : Bls w (.slice none 0 0) [] := .inl ⟨rfl, rfl⟩
/-- Yes and no, written out. -/
theorem Bls.lit (w : World) (ks : List Bool) (h : ks.length ≤ maxLen) : Bls (w.alloc (.cells (ks.map Value.bool).toArray 4)) (.slice (some ⟨w.heap.size, 0, none⟩) ks.length ks.length) ks :=
  .inr (.inl ⟨w.heap.size, 0, ks.length, rfl, Nat.le_refl _, h, fun i hi => by
    rw [Nat.mul_one] at hi
    have hn := (Blk.made w 4 (ks.map Value.bool).toArray).cell (i := 0 + i) (x := .bool (ks.getD i false)) (by simp [hi, List.getD])
    exact hn⟩)

def wk0 : DS := DS.new 64
def wk1 : DS := (wk0.write 1 (Bk.of 97)).1
theorem wk1e : wk0.write 1 (Bk.of 97) = (wk1, 0) := by kernel_rfl
def wk2 : DS := (wk1.write 1 (Bk.of 98)).1
theorem wk2e : wk1.write 1 (Bk.of 98) = (wk2, 0) := by kernel_rfl
def wk3 : DS := (wk2.fail [true]).1
theorem wk3e : wk2.fail [true] = (wk3, 0) := by kernel_rfl
def wk4 : DS := wk3.anew
def wk5 : DS := (wk4.write 2 (Bk.of 99)).1
theorem wk5e : wk4.write 2 (Bk.of 99) = (wk5, 0) := by kernel_rfl
def wk6 : DS := wk5.flush.1
theorem wk6e : wk5.flush = (wk6, 0) := by kernel_rfl
def wk7 : DS := (wk6.write 2 (Bk.of 100)).1
theorem wk7e : wk6.write 2 (Bk.of 100) = (wk7, 0) := by kernel_rfl
def wk8 : DS := (wk7.cut 1 [false, true]).1
theorem wk8e : wk7.cut 1 [false, true] = (wk8, 0) := by kernel_rfl
def wk9 : DS := (wk8.write 3 (Bk.of 101)).1
theorem wk9e : wk8.write 3 (Bk.of 101) = (wk9, 51) := by kernel_rfl
def wk10 : DS := wk9.anew
def wk11 : DS := (wk10.cut 2 []).1
theorem wk11e : wk10.cut 2 [] = (wk11, 0) := by kernel_rfl
def wk12 : DS := (wk11.write 5 (Bk.of 102)).1
theorem wk12e : wk11.write 5 (Bk.of 102) = (wk12, 0) := by kernel_rfl
def wk13 : DS := wk12.flush.1
theorem wk13e : wk12.flush = (wk13, 51) := by kernel_rfl
theorem wk0m : wk0.m ≤ 100000000 := by decide
theorem wk1m : wk1.m ≤ 100000000 := by decide
theorem wk2m : wk2.m ≤ 100000000 := by decide
theorem wk3m : wk3.m ≤ 100000000 := by decide
theorem wk4m : wk4.m ≤ 100000000 := by decide
theorem wk5m : wk5.m ≤ 100000000 := by decide
theorem wk6m : wk6.m ≤ 100000000 := by decide
theorem wk7m : wk7.m ≤ 100000000 := by decide
theorem wk8m : wk8.m ≤ 100000000 := by decide
theorem wk9m : wk9.m ≤ 100000000 := by decide
theorem wk10m : wk10.m ≤ 100000000 := by decide
theorem wk11m : wk11.m ≤ 100000000 := by decide
theorem wk12m : wk12.m ≤ 100000000 := by decide
theorem wk13m : wk13.m ≤ 100000000 := by decide
theorem wk2r : wk2.read 1 = (Bk.of 98, 0) := by kernel_rfl
theorem wk2w : ((wk2.wt.length : Nat) : Int) = 2 := by kernel_rfl
theorem wk3d : wk3.dd = true := by kernel_rfl
theorem wk4r : wk4.read 1 = (Bk.of 97, 0) := by kernel_rfl
theorem wk9d : wk9.dd = true := by kernel_rfl
theorem wk10r2 : wk10.read 2 = (Bk.of 99, 0) := by kernel_rfl
theorem wk10r3 : wk10.read 3 = (Bk.of 101, 0) := by kernel_rfl
theorem wk13d : wk13.dd = true := by kernel_rfl

set_option maxRecDepth 20000 in
set_option maxHeartbeats 4000000 in
theorem works_any (w : World) : Calls Try.prog 9 #[] w (Asks w true) := by
  have L0 := Lib.hid (Law.start w)
  go_enter Try.func9, Try.ntmps9
  go_wp2_with fail
  refine (lNew L0.out 64 (by omega) (by omega)).mono ?_; rintro e w1 ⟨p, rfl, hl, hg⟩; have L1 := Lib.hid hl; clear hl hg
  go_wp2_with fail
  refine (block_lit 97 97 rfl _).mono ?_; rintro e w2 ⟨rfl, hg⟩; have L2 := Lib.hid (L1.out.new hg); clear hg
  go_wp2_with fail
  refine (dWrite L2.out 0 rfl wk0m 1 (by decide) (Bk.of 97) wk1e rfl).mono ?_; rintro e w3 ⟨rfl, hl, hk⟩; have L3 := Lib.hid hl; clear hl hk
  go_wp2_with fail
  refine (block_lit 98 98 rfl _).mono ?_; rintro e w4 ⟨rfl, hg⟩; have L4 := Lib.hid (L3.out.new hg); clear hg
  go_wp2_with fail
  refine (dWrite L4.out 0 rfl wk1m 1 (by decide) (Bk.of 98) wk2e rfl).mono ?_; rintro e w5 ⟨rfl, hl, hk⟩; have L5 := Lib.hid hl; clear hl hk
  go_wp2_with fail
  refine (dIs L5.out 0 rfl 1 (by decide) 98 98 rfl _ wk2r true (isB_of 98 (by decide))).mono ?_; rintro e w6 ⟨rfl, hg⟩; have L6 := Lib.hid (L5.out.new hg); clear hg
  go_wp2_with fail
  refine (lWaiting L6.out (i := 0) rfl).mono ?_; rintro e w' ⟨rfl, rfl⟩; rw [wk2w]
  go_wp2_with fail
  have L6a := Lib.hid (L6.out.new (World.grownBy_alloc _ (.cells ([true].map Value.bool).toArray 4) none))
  refine (dFail L6a.out 0 rfl (Nat.le_trans wk2m (by decide)) (Bls.lit _ [true] (by decide)) wk3e rfl).mono ?_; rintro e w7 ⟨rfl, hl, hk⟩; have L7 := Lib.hid hl; clear hl hk
  go_wp2_with fail
  refine (lDead L7.out (i := 0) rfl).mono ?_; rintro e w' ⟨rfl, rfl⟩; rw [wk3d]
  go_wp2_with fail
  refine (lBooted L7.out (i := 0) rfl (Nat.le_trans wk3m (by decide)) wk3d).mono ?_; rintro e w8 ⟨p2, rfl, hl, hg⟩; have L8 := Lib.hid hl; clear hl hg
  have L9 : Hid (Law w _ [] [(p2, wk4)]) := Lib.hid L8.out.drop2
  go_wp2_with fail
  refine (dIs L9.out 0 rfl 1 (by decide) 97 97 rfl _ wk4r true (isB_of 97 (by decide))).mono ?_; rintro e w10 ⟨rfl, hg⟩; have L10 := Lib.hid (L9.out.new hg); clear hg
  go_wp2_with fail
  refine (block_lit 99 99 rfl _).mono ?_; rintro e w11 ⟨rfl, hg⟩; have L11 := Lib.hid (L10.out.new hg); clear hg
  go_wp2_with fail
  refine (dWrite L11.out 0 rfl wk4m 2 (by decide) (Bk.of 99) wk5e rfl).mono ?_; rintro e w12 ⟨rfl, hl, hk⟩; have L12 := Lib.hid hl; clear hl hk
  go_wp2_with fail
  refine (dFlush L12.out 0 rfl (Nat.le_trans wk5m (by decide)) wk6e rfl).mono ?_; rintro e w13 ⟨rfl, hl, hk⟩; have L13 := Lib.hid hl; clear hl hk
  go_wp2_with fail
  refine (block_lit 100 100 rfl _).mono ?_; rintro e w14 ⟨rfl, hg⟩; have L14 := Lib.hid (L13.out.new hg); clear hg
  go_wp2_with fail
  refine (dWrite L14.out 0 rfl wk6m 2 (by decide) (Bk.of 100) wk7e rfl).mono ?_; rintro e w15 ⟨rfl, hl, hk⟩; have L15 := Lib.hid hl; clear hl hk
  go_wp2_with fail
  have L15a := Lib.hid (L15.out.new (World.grownBy_alloc _ (.cells ([false, true].map Value.bool).toArray 4) none))
  refine (dCut L15a.out 0 rfl 1 (by decide) (Bls.lit _ [false, true] (by decide)) (by decide) wk8e rfl).mono ?_; rintro e w16 ⟨rfl, hl, hk⟩; have L16 := Lib.hid hl; clear hl hk
  go_wp2_with fail
  refine (block_lit 101 101 rfl _).mono ?_; rintro e w17 ⟨rfl, hg⟩; have L17 := Lib.hid (L16.out.new hg); clear hg
  go_wp2_with fail
  refine (dWrite L17.out 0 rfl wk8m 3 (by decide) (Bk.of 101) wk9e rfl).mono ?_; rintro e w18 ⟨rfl, hl, hk⟩; have L18 := Lib.hid hl; clear hl hk
  go_wp2_with fail
  refine (lBooted L18.out (i := 0) rfl (Nat.le_trans wk9m (by decide)) wk9d).mono ?_; rintro e w19 ⟨p3, rfl, hl, hg⟩; have L19 := Lib.hid hl; clear hl hg
  have L20 : Hid (Law w _ [] [(p3, wk10)]) := Lib.hid L19.out.drop2
  go_wp2_with fail
  refine (dIs L20.out 0 rfl 2 (by decide) 99 99 rfl _ wk10r2 true (isB_of 99 (by decide))).mono ?_; rintro e w21 ⟨rfl, hg⟩; have L21 := Lib.hid (L20.out.new hg); clear hg
  go_wp2_with fail
  refine (dIs L21.out 0 rfl 3 (by decide) 101 101 rfl _ wk10r3 true (isB_of 101 (by decide))).mono ?_; rintro e w22 ⟨rfl, hg⟩; have L22 := Lib.hid (L21.out.new hg); clear hg
  go_wp2_with fail
  refine (dCut L22.out 0 rfl 2 (by decide) (Bls.nil _) (by decide) wk11e rfl).mono ?_; rintro e w23 ⟨rfl, hl, hk⟩; have L23 := Lib.hid hl; clear hl hk
  go_wp2_with fail
  refine (block_lit 102 102 rfl _).mono ?_; rintro e w24 ⟨rfl, hg⟩; have L24 := Lib.hid (L23.out.new hg); clear hg
  go_wp2_with fail
  refine (dWrite L24.out 0 rfl wk11m 5 (by decide) (Bk.of 102) wk12e rfl).mono ?_; rintro e w25 ⟨rfl, hl, hk⟩; have L25 := Lib.hid hl; clear hl hk
  go_wp2_with fail
  refine (dFlush L25.out 0 rfl (Nat.le_trans wk12m (by decide)) wk13e rfl).mono ?_; rintro e w26 ⟨rfl, hl, hk⟩; have L26 := Lib.hid hl; clear hl hk
  go_wp2_with fail
  refine (lDead L26.out (i := 0) rfl).mono ?_; rintro e w' ⟨rfl, rfl⟩; rw [wk13d]
  go_wp2_with fail
  go_ret
  exact ⟨rfl, L26.out.grown⟩
end Go.Proofs.Ytnnhnkpbiilooaa
