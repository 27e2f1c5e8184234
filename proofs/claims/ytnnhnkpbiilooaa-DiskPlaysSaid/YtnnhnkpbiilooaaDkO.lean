/- disk: what the statements call: block, is, booted; several disks side by side. -/
import Derived.Test.YtnnhnkpbiilooaaDkN
namespace Go.Proofs.Ytnnhnkpbiilooaa
open Go.RowKit Go.Maps

theorem Bk.get (b : Bk) (i : Nat) (hi : i < 512) : b.v[i]? = some (u8v (b.l.getD i 0)) := by
  have := b.h
  unfold Bk.v
  simp [List.getD, show i < b.l.length by omega]
theorem set_u8v (l : List UInt8) (i : Nat) (x : UInt8) : ((l.map u8v).toArray.setIfInBounds i (u8v x)) = ((l.set i x).map u8v).toArray := by
  simp [List.map_set]
theorem of_v (c : UInt8) : ((Bk.zero.v.setIfInBounds 0 (u8v c)).setIfInBounds 200 (u8v (c + 1))).setIfInBounds 511 (u8v (c + 2)) = (Bk.of c).v := by
  unfold Bk.zero Bk.of Bk.v
  rw [set_u8v, set_u8v, set_u8v]
theorem u8_wrap (c : UInt8) (k : UInt8) : IntKind.u8.wrap ((c.toNat : Int) + (k.toNat : Int)) = ((c + k).toNat : Int) := by
  rw [UInt8.toNat_add]
  have := c.toNat_lt
  have := k.toNat_lt
  simp [IntKind.wrap, IntKind.bits, IntKind.signed]

theorem results_cell_row' {P : Program} {fn : Func} {p : Tmp} {ty : TypeId} (h : fn.results = #[.cell p ty]) (tmps : Array Value) (w : World) (g : Nat) (t : TypeId) (cs : Array Value) (fr : Nat × Nat) (d : TypeDesc)
    (hp : tmps.getD p undef = .pointer (some ⟨g, 0, none⟩)) (hg : w.heap[g]? = some (.cells cs t fr))
    (hu : P.underlying ty = some d) (hd : (match d with | .struct _ | .array _ _ => true | _ => false) = true) (hi : (P.info? ty).map (·.size) = some cs.size) : (results fn tmps).run P w = .ok (.agg cs) w := results_cell_row h tmps w g t cs fr d hp hg hu hd hi

/-- A block is told; memory may be made. -/
def Block (w : World) (b : Bk) (e : Ending) (w' : World) : Prop := e = .returned (.agg b.v) ∧ w.grownBy w' none

set_option maxRecDepth 20000 in
set_option maxHeartbeats 400000 in
theorem block_any (c : UInt8) (w : World) : Calls Try.prog 15 #[.int .u8 (c.toNat : Int)] w (Block w (Bk.of c)) := by
  have e1 := u8_wrap c 1
  have e2 := u8_wrap c 2
  have HE := Lib.hid (of_v c)
  unfold u8v at HE
  have e1 : IntKind.u8.wrap ((c.toNat : Int) + 1) = ((c + 1).toNat : Int) := e1
  have e2 : IntKind.u8.wrap ((c.toNat : Int) + 2) = ((c + 2).toNat : Int) := e2
  rw [← e1, ← e2] at HE
  have z0 : 0 ≤ (c.toNat : Int) := by omega
  have z1 : (c.toNat : Int) ≤ 255 := by have := c.toNat_lt; omega
  clear e1 e2
  generalize (c.toNat : Int) = n at *
  obtain ⟨n1, h1⟩ : ∃ n1, IntKind.u8.wrap (n + 1) = n1 := ⟨_, rfl⟩
  obtain ⟨n2, h2⟩ : ∃ n2, IntKind.u8.wrap (n + 2) = n2 := ⟨_, rfl⟩
  rw [h1, h2] at HE
  go_enter Try.func15, Try.ntmps15
  go_upto_region 1 with (refine wpAllocB rfl rfl ?_; intro g1 w1 hn1; have N1 := Lib.hid hn1; clear hn1)
  go_upto_region 2 with (refine wpAllocB rfl rfl ?_; intro g2 w2 hn2; have N2 := Lib.hid hn2; clear hn2)
  have B0 := Lib.hid N2.out.blk
  have S0 := Lib.hid (B0.out.set 0 (.int .u8 n))
  have S1 := Lib.hid (S0.out.set 200 (.int .u8 n1))
  have S2 := Lib.hid (S1.out.set 511 (.int .u8 n2))
  have T0 := Lib.hid (B0.out.setG 0 (.int .u8 n))
  have T1 := Lib.hid (S0.out.setG 200 (.int .u8 n1))
  have T2 := Lib.hid (S1.out.setG 511 (.int .u8 n2))
  have k0 := B0.out.cell (i := 0) (Bk.zero.get 0 (by omega))
  have k1 := S0.out.cell (i := 200) (x := u8v (Bk.zero.l.getD 200 0)) (by rw [Array.getElem?_setIfInBounds_ne (by omega)]; exact Bk.zero.get 200 (by omega))
  have k2 := S1.out.cell (i := 511) (x := u8v (Bk.zero.l.getD 511 0)) (by rw [Array.getElem?_setIfInBounds_ne (by omega), Array.getElem?_setIfInBounds_ne (by omega)]; exact Bk.zero.get 511 (by omega))
  have f0 := B0.out.frozen 0
  have f1 := S0.out.frozen 200
  have f2 := S1.out.frozen 511
  unfold u8v at k0 k1 k2
  generalize (Bk.zero.l.getD 0 0).toNat = x0 at *
  generalize (Bk.zero.l.getD 200 0).toNat = x1 at *
  generalize (Bk.zero.l.getD 511 0).toNat = x2 at *
  go_upto_region 3 with fail
  have T := (T0.out.trans T1.out).trans T2.out
  have b3 := S2.out
  rw [HE.out] at b3
  have hne : g1 ≠ g2 := by have := N1.out.blk.lt; have := N2.out.ge; omega
  have a3 := (N1.out.blk.new N2.out.grown).kept T (by simpa using hne)
  have hg3 := grown_new (grown_two N1.out.grown N2.out.grown) T (Nat.le_trans N1.out.grown.size N2.out.ge)
  clear S0 S1 S2 T0 T1 T2 k0 k1 k2 f0 f1 f2 T
  generalize World.setCell _ _ _ = w3 at *
  have B3 := Lib.hid b3
  have A3 := Lib.hid a3
  have G3 := Lib.hid hg3
  clear b3 a3 hg3
  go_wp2_with (first
    | (refine wpLoadB rfl (.tmp 3) rfl g2 _ rfl B3.out ?_)
    | (refine wpStoreB rfl (.tmp 2) (.tmp 12) rfl g1 _ _ rfl rfl A3.out ?_; intro w4 hb4 hg4; have B4 := Lib.hid hb4; have G4 := Lib.hid (grown_new G3.out hg4 N1.out.ge); clear hb4 hg4))
  exact bodyPost_ret (results_cell_row' Try.results15 _ _ g1 _ _ (0, 0) _ rfl B4.out undB rfl (rowB _)) rfl ⟨rfl, G4.out⟩

/-- What a byte's block is, 0: one that was never written. -/
def Bk.want (c : UInt8) : Bk := if c = 0 then Bk.zero else Bk.of c
/-- A Bool is told; memory may be made. -/
def Asks (w : World) (z : Bool) (e : Ending) (w' : World) : Prop := e = .returned (.bool z) ∧ w.grownBy w' none
def isB (r : Bk × Int) (c : UInt8) : Bool := decide (r.2 = 0) && decide (r.1 = Bk.want c)

set_option maxRecDepth 20000 in
set_option maxHeartbeats 1000000 in
theorem is_any {w : World} {base : Nat} {F : Foot} {s : DS} (h : Dk w base F s) (k : Int) (hk : -9223372036854775808 ≤ k ∧ k ≤ 9223372036854775807) (c : UInt8) :
    Calls Try.prog 17 #[dptr F.p, .int .i64 k, .int .u8 (c.toNat : Int)] w (Asks w (isB (s.read k) c)) := by
  have HR := Lib.hid (Read_any h k hk)
  have HBK := Lib.hid (fun w => block_any c w)
  obtain ⟨⟨b, z⟩, hr⟩ : ∃ r, s.read k = r := ⟨_, rfl⟩
  rw [hr] at HR ⊢
  unfold isB
  dsimp only at HR ⊢
  obtain ⟨D, hD⟩ : ∃ D, decide (b = Bk.want c) = D := ⟨_, rfl⟩
  have HD := Lib.hid hD
  rw [hD]
  clear h hr hk hD
  have z0 : 0 ≤ (c.toNat : Int) := by omega
  have z1 : (c.toNat : Int) ≤ 255 := by have := c.toNat_lt; omega
  have HW0 : Hid ((c.toNat : Int) = 0 → Bk.want c = Bk.zero) := Lib.hid (fun h => by unfold Bk.want; rw [if_pos (UInt8.toNat_inj.1 (show c.toNat = (0 : UInt8).toNat by simp; omega))])
  have HW1 : Hid ((c.toNat : Int) ≠ 0 → Bk.want c = Bk.of c) := Lib.hid (fun h => by unfold Bk.want; rw [if_neg (fun e => h (by rw [e]; rfl))])
  generalize (c.toNat : Int) = n at *
  generalize hwant : Bk.want c = W at *
  unfold dptr at *
  by_cases hz : z = 0
  · subst hz
    have e1 : (decide ((0 : Int) = 0) && D) = D := by simp
    rw [e1]
    clear e1
    by_cases hn : n = 0
    · have hw := HW0.out hn
      rw [hw] at HD
      subst hn
      clear hw hwant HW0 HW1
      go_enter Try.func17, Try.ntmps17
      go_upto_region 2 with (first
        | (go_at_call 12; refine HR.out.mono ?_; rintro e w1 ⟨rfl, hg1⟩; have G1 := Lib.hid hg1; clear hg1)
        | (refine wpAllocB rfl rfl ?_; intro g1 w2 hn1; have N1 := Lib.hid hn1; clear hn1)
        | (refine wpStoreB rfl (.tmp 7) (.tmp 14) rfl g1 _ _ rfl rfl N1.out.blk ?_; intro w3 hb3 hg3; have B3 := Lib.hid hb3; have G3 := Lib.hid (grown_new (grown_two G1.out N1.out.grown) hg3 (Nat.le_trans G1.out.size N1.out.ge)); clear hb3 hg3))
      go_upto_region 3 with (first
        | (go_at_call 15; refine (HBK.out _).mono ?_; rintro e w4 ⟨rfl, hg4⟩; have B4 := Lib.hid (B3.out.new hg4); have G4 := Lib.hid (grown_two G3.out hg4); clear hg4)
        | (refine wpAllocB rfl rfl ?_; intro g2 w5 hn2; have N2 := Lib.hid hn2; clear hn2)
        | (refine wpStoreB rfl (.tmp 9) (.tmp 17) rfl g2 _ _ rfl rfl N2.out.blk ?_; intro w6 hb6 hg6; have B6 := Lib.hid hb6; have A6 := Lib.hid ((B4.out.new N2.out.grown).kept hg6 (by have := N2.out.ge; have := B4.out.lt; simp; omega)); have G6 := Lib.hid (grown_new (grown_two G4.out N2.out.grown) hg6 (Nat.le_trans G4.out.size N2.out.ge)); have LE := Lib.hid (Nat.le_trans G4.out.size N2.out.ge); have NE : Hid (g1 ≠ g2) := Lib.hid (by have := N2.out.ge; have := B4.out.lt; omega); clear hb6 hg6))
      go_upto_region 5 with (first
        | (refine wpBuildB rfl rfl ?_)
        | (refine wpStoreB rfl (.tmp 9) (.tmp 20) rfl g2 _ _ rfl rfl B6.out ?_; intro w7 hb7 hg7; have B7 := Lib.hid hb7; have A7 := Lib.hid (A6.out.kept hg7 (by have := NE.out; simpa using this)); have G7 := Lib.hid (grown_new G6.out hg7 LE.out); clear hb7 hg7))
      go_wp2_with (first
        | (refine wpLoadB rfl (.tmp 7) rfl g1 _ rfl A7.out ?_)
        | (refine wpLoadB rfl (.tmp 9) rfl g2 _ rfl B7.out ?_)
        | (refine wpEqlB rfl _ _ _ rfl _ _ rfl rfl ?_; rw [HD.out]))
      go_ret
      exact ⟨rfl, G7.out⟩
    · have hw := HW1.out hn
      rw [hw] at HD
      have hn1 := beq_false_of_ne hn
      clear hw hwant HW0 HW1
      go_enter Try.func17, Try.ntmps17
      go_upto_region 2 with (first
        | (go_at_call 12; refine HR.out.mono ?_; rintro e w1 ⟨rfl, hg1⟩; have G1 := Lib.hid hg1; clear hg1)
        | (refine wpAllocB rfl rfl ?_; intro g1 w2 hn1; have N1 := Lib.hid hn1; clear hn1)
        | (refine wpStoreB rfl (.tmp 7) (.tmp 14) rfl g1 _ _ rfl rfl N1.out.blk ?_; intro w3 hb3 hg3; have B3 := Lib.hid hb3; have G3 := Lib.hid (grown_new (grown_two G1.out N1.out.grown) hg3 (Nat.le_trans G1.out.size N1.out.ge)); clear hb3 hg3))
      go_upto_region 3 with (first
        | (go_at_call 15; refine (HBK.out _).mono ?_; rintro e w4 ⟨rfl, hg4⟩; have B4 := Lib.hid (B3.out.new hg4); have G4 := Lib.hid (grown_two G3.out hg4); clear hg4)
        | (refine wpAllocB rfl rfl ?_; intro g2 w5 hn2; have N2 := Lib.hid hn2; clear hn2)
        | (refine wpStoreB rfl (.tmp 9) (.tmp 17) rfl g2 _ _ rfl rfl N2.out.blk ?_; intro w6 hb6 hg6; have B6 := Lib.hid hb6; have A6 := Lib.hid ((B4.out.new N2.out.grown).kept hg6 (by have := N2.out.ge; have := B4.out.lt; simp; omega)); have G6 := Lib.hid (grown_new (grown_two G4.out N2.out.grown) hg6 (Nat.le_trans G4.out.size N2.out.ge)); have LE := Lib.hid (Nat.le_trans G4.out.size N2.out.ge); have NE : Hid (g1 ≠ g2) := Lib.hid (by have := N2.out.ge; have := B4.out.lt; omega); clear hb6 hg6))
      go_upto_region 5 with fail
      go_wp2_with (first
        | (refine wpLoadB rfl (.tmp 7) rfl g1 _ rfl A6.out ?_)
        | (refine wpLoadB rfl (.tmp 9) rfl g2 _ rfl B6.out ?_)
        | (refine wpEqlB rfl _ _ _ rfl _ _ rfl rfl ?_; rw [HD.out]))
      go_ret
      exact ⟨rfl, G6.out⟩
  · have e1 : (decide (z = 0) && D) = false := by simp [hz]
    rw [e1]
    clear e1
    have hz1 := beq_false_of_ne hz
    by_cases hn : n = 0
    · subst hn
      clear hwant HW0 HW1
      go_enter Try.func17, Try.ntmps17
      go_upto_region 2 with (first
        | (go_at_call 12; refine HR.out.mono ?_; rintro e w1 ⟨rfl, hg1⟩; have G1 := Lib.hid hg1; clear hg1)
        | (refine wpAllocB rfl rfl ?_; intro g1 w2 hn1; have N1 := Lib.hid hn1; clear hn1)
        | (refine wpStoreB rfl (.tmp 7) (.tmp 14) rfl g1 _ _ rfl rfl N1.out.blk ?_; intro w3 hb3 hg3; have B3 := Lib.hid hb3; have G3 := Lib.hid (grown_new (grown_two G1.out N1.out.grown) hg3 (Nat.le_trans G1.out.size N1.out.ge)); clear hb3 hg3))
      go_upto_region 3 with (first
        | (go_at_call 15; refine (HBK.out _).mono ?_; rintro e w4 ⟨rfl, hg4⟩; have B4 := Lib.hid (B3.out.new hg4); have G4 := Lib.hid (grown_two G3.out hg4); clear hg4)
        | (refine wpAllocB rfl rfl ?_; intro g2 w5 hn2; have N2 := Lib.hid hn2; clear hn2)
        | (refine wpStoreB rfl (.tmp 9) (.tmp 17) rfl g2 _ _ rfl rfl N2.out.blk ?_; intro w6 hb6 hg6; have B6 := Lib.hid hb6; have A6 := Lib.hid ((B4.out.new N2.out.grown).kept hg6 (by have := N2.out.ge; have := B4.out.lt; simp; omega)); have G6 := Lib.hid (grown_new (grown_two G4.out N2.out.grown) hg6 (Nat.le_trans G4.out.size N2.out.ge)); have LE := Lib.hid (Nat.le_trans G4.out.size N2.out.ge); have NE : Hid (g1 ≠ g2) := Lib.hid (by have := N2.out.ge; have := B4.out.lt; omega); clear hb6 hg6))
      go_upto_region 5 with (first
        | (refine wpBuildB rfl rfl ?_)
        | (refine wpStoreB rfl (.tmp 9) (.tmp 20) rfl g2 _ _ rfl rfl B6.out ?_; intro w7 hb7 hg7; have B7 := Lib.hid hb7; have A7 := Lib.hid (A6.out.kept hg7 (by have := NE.out; simpa using this)); have G7 := Lib.hid (grown_new G6.out hg7 LE.out); clear hb7 hg7))
      go_wp2_with fail
      go_ret
      exact ⟨rfl, G7.out⟩
    · have hn1 := beq_false_of_ne hn
      clear hwant HW0 HW1
      go_enter Try.func17, Try.ntmps17
      go_upto_region 2 with (first
        | (go_at_call 12; refine HR.out.mono ?_; rintro e w1 ⟨rfl, hg1⟩; have G1 := Lib.hid hg1; clear hg1)
        | (refine wpAllocB rfl rfl ?_; intro g1 w2 hn1; have N1 := Lib.hid hn1; clear hn1)
        | (refine wpStoreB rfl (.tmp 7) (.tmp 14) rfl g1 _ _ rfl rfl N1.out.blk ?_; intro w3 hb3 hg3; have B3 := Lib.hid hb3; have G3 := Lib.hid (grown_new (grown_two G1.out N1.out.grown) hg3 (Nat.le_trans G1.out.size N1.out.ge)); clear hb3 hg3))
      go_upto_region 3 with (first
        | (go_at_call 15; refine (HBK.out _).mono ?_; rintro e w4 ⟨rfl, hg4⟩; have B4 := Lib.hid (B3.out.new hg4); have G4 := Lib.hid (grown_two G3.out hg4); clear hg4)
        | (refine wpAllocB rfl rfl ?_; intro g2 w5 hn2; have N2 := Lib.hid hn2; clear hn2)
        | (refine wpStoreB rfl (.tmp 9) (.tmp 17) rfl g2 _ _ rfl rfl N2.out.blk ?_; intro w6 hb6 hg6; have B6 := Lib.hid hb6; have A6 := Lib.hid ((B4.out.new N2.out.grown).kept hg6 (by have := N2.out.ge; have := B4.out.lt; simp; omega)); have G6 := Lib.hid (grown_new (grown_two G4.out N2.out.grown) hg6 (Nat.le_trans G4.out.size N2.out.ge)); have LE := Lib.hid (Nat.le_trans G4.out.size N2.out.ge); have NE : Hid (g1 ≠ g2) := Lib.hid (by have := N2.out.ge; have := B4.out.lt; omega); clear hb6 hg6))
      go_upto_region 5 with fail
      go_wp2_with fail
      go_ret
      exact ⟨rfl, G6.out⟩

set_option maxRecDepth 20000 in
theorem booted_any {w : World} {base : Nat} {F : Foot} {s : DS} (h : Dk w base F s) (hb : base ≤ w.heap.size) (hm : s.m ≤ 1000000000) (hd : s.dd = true) : Calls Try.prog 22 #[dptr F.p] w (Makes w base F.kv s.anew Ending.returned) := by
  have HB := Lib.hid (Boot_any h hb hm hd)
  clear h hb hm hd
  unfold dptr at *
  go_enter Try.func22, Try.ntmps22
  go_wp2_with fail
  refine HB.out.mono ?_; rintro e w1 ⟨G, rfl, h2, h3, h5, h4⟩
  unfold dptr
  have H := Lib.hid (And.intro h2 (And.intro h3 (And.intro h5 h4)))
  clear h2 h3 h4 h5
  go_wp2_with fail
  go_ret
  obtain ⟨h2, h3, h5, h4⟩ := H.out
  exact ⟨G, rfl, h2, h3, h5, h4⟩
set_option maxRecDepth 20000 in
theorem booted_no {w : World} {base : Nat} {F : Foot} {s : DS} (h : Dk w base F s) (hd : s.dd = false) : Calls Try.prog 22 #[dptr F.p] w fun e w' => e = .returned (.pointer none) ∧ w = w' := by
  have HB := Lib.hid (Boot_no h hd)
  clear h hd
  unfold dptr at *
  go_enter Try.func22, Try.ntmps22
  go_wp2_with (refine HB.out.mono ?_; rintro e w1 ⟨rfl, rfl⟩)
  go_ret
  exact ⟨rfl, rfl⟩

/-! Several disks side by side. -/
/-- Disks, in blocks of their own. -/
structure Dks (w : World) (base : Nat) (O : List Nat) (l : List (Foot × DS)) : Prop where
  each : ∀ x ∈ l, Dk w base x.1 x.2
  apart : l.Pairwise (fun x y => ∀ k, x.1.has k → ¬ y.1.has k)
  keeps : ∀ x ∈ l, ∀ k, x.1.kv.ownBlock = some k → k ∉ O

/-- What a statement holds while it goes on: what was there stands, these blocks are its own, and these disks are there. -/
def Law (W w : World) (O : List Nat) (l : List (Nat × DS)) : Prop := W.grownBy w none ∧ (∀ r ∈ O, W.heap.size ≤ r ∧ r < w.heap.size) ∧ ∃ fs : List (Foot × DS), fs.map (fun x => (x.1.p, x.2)) = l ∧ Dks w W.heap.size O fs

/-- All stays that is no disk's. -/
def KeptD (w w' : World) : Prop := Kept (DKind w) w w'

theorem Law.start (W : World) : Law W W [] [] := ⟨World.grownBy.refl _ _, by simp, [], rfl, by simp, by simp, by simp⟩
theorem Law.grown {W w : World} {O : List Nat} {l : List (Nat × DS)} (h : Law W w O l) : W.grownBy w none := h.1
theorem Law.size {W w : World} {O : List Nat} {l : List (Nat × DS)} (h : Law W w O l) : W.heap.size ≤ w.heap.size := h.1.size
theorem Law.drop {W w : World} {O : List Nat} {x : Nat × DS} {l : List (Nat × DS)} (h : Law W w O (x :: l)) : Law W w O l := by
  obtain ⟨h1, h2, fs, h3, h4⟩ := h
  cases fs with
  | nil => cases h3
  | cons y fs =>
    simp only [List.map_cons, List.cons.injEq] at h3
    exact ⟨h1, h2, fs, h3.2, fun x hx => h4.each x (by simp [hx]), (List.pairwise_cons.1 h4.apart).2, fun x hx => h4.keeps x (by simp [hx])⟩
/-- The second one is forgotten. -/
theorem Law.drop2 {W w : World} {O : List Nat} {x y : Nat × DS} {l : List (Nat × DS)} (h : Law W w O (x :: y :: l)) : Law W w O (x :: l) := by
  obtain ⟨h1, h2, fs, h3, h4⟩ := h
  match fs, h3 with
  | a :: b :: fs, h3 =>
    simp only [List.map_cons, List.cons.injEq] at h3
    obtain ⟨e1, _, e3⟩ := h3
    have hp := List.pairwise_cons.1 h4.apart
    refine ⟨h1, h2, a :: fs, by simp [e1, e3], fun x hx => ?_, List.pairwise_cons.2 ⟨fun z hz => hp.1 z (by simp [hz]), (List.pairwise_cons.1 hp.2).2⟩, fun x hx => ?_⟩
    · rcases List.mem_cons.1 hx with rfl | hx
      · exact h4.each _ (by simp)
      · exact h4.each x (by simp [hx])
    · rcases List.mem_cons.1 hx with rfl | hx
      · exact h4.keeps _ (by simp)
      · exact h4.keeps x (by simp [hx])
theorem Law.dropO {W w : World} {r : Nat} {O : List Nat} {l : List (Nat × DS)} (h : Law W w (r :: O) l) : Law W w O l := by
  obtain ⟨h1, h2, fs, h3, h4⟩ := h
  exact ⟨h1, fun r hr => h2 r (by simp [hr]), fs, h3, h4.each, h4.apart, fun x hx k hk hO => h4.keeps x hx k hk (by simp [hO])⟩
/-- Memory is made. -/
theorem Law.new {W w w' : World} {O : List Nat} {l : List (Nat × DS)} (h : Law W w O l) (hg : w.grownBy w' none) : Law W w' O l := by
  obtain ⟨h1, h0, fs, h2, h3⟩ := h
  exact ⟨grown_two h1 hg, fun r hr => ⟨(h0 r hr).1, Nat.lt_of_lt_of_le (h0 r hr).2 hg.size⟩, fs, h2, fun x hx => (h3.each x hx).new hg, h3.apart, h3.keeps⟩
/-- .. a block of the statement's own. -/
theorem Law.mark {W w w' : World} {O : List Nat} {l : List (Nat × DS)} (h : Law W w O l) (hg : w.grownBy w' none) {r : Nat} (h1 : w.heap.size ≤ r) (h2 : r < w'.heap.size) : Law W w' (r :: O) l := by
  obtain ⟨k1, k0, fs, k2, k3⟩ := h
  refine ⟨grown_two k1 hg, fun x hx => ?_, fs, k2, fun x hx => (k3.each x hx).new hg, k3.apart, fun x hx k hk hO => ?_⟩
  · rcases List.mem_cons.1 hx with rfl | hx
    · exact ⟨Nat.le_trans k1.size h1, h2⟩
    · exact ⟨(k0 x hx).1, Nat.lt_of_lt_of_le (k0 x hx).2 hg.size⟩
  · rcases List.mem_cons.1 hO with rfl | hO
    · obtain ⟨j1, j2⟩ := (k3.each x hx).kv
      have := (World.ownsRow.lt j2 _ hk).2
      omega
    · exact k3.keeps x hx k hk hO
/-- A block of the statement's own is written. -/
theorem Law.own {W w w' : World} {O : List Nat} {l : List (Nat × DS)} (h : Law W w O l) {r : Nat} {t : TypeId} {cs : Array Value} (hb : Blk w r t cs) (h1 : t ≠ 63) (h2 : t ≠ 67) (hr : r ∈ O) (hg : w.grownBy w' (some r)) : Law W w' O l := by
  obtain ⟨k1, k0, fs, k2, k3⟩ := h
  have hn : ¬ DKind w r := kind_cells hb h1 h2
  have hk : Kept (· = r) w w' := Kept.of hg (fun k e => .inl (by cases e; rfl))
  refine ⟨grown_new k1 hg (k0 r hr).1, fun x hx => ⟨(k0 x hx).1, Nat.lt_of_lt_of_le (k0 x hx).2 hg.size⟩, fs, k2, fun x hx => ?_, k3.apart, k3.keeps⟩
  have hx' := k3.each x hx
  obtain ⟨j1, j2⟩ := hx'.kv
  obtain ⟨c, j3, j4⟩ := hx'.c
  have off : ∀ k, x.1.has k → ¬ k = r := fun k hk e => hn (e ▸ hx'.kind hk)
  exact ⟨⟨hk.blk j1 (off _ (.inl rfl)), hk.own j2 (fun k e hs => k3.keeps x hx k e (hs ▸ hr))⟩, ⟨c, hk.mp j3 (off _ (.inr (.inl rfl))), j4⟩, hk.mp hx'.nw (off _ (.inr (.inr (.inl rfl)))), hk.row hx'.wr (fun k e => off _ (.inr (.inr (.inr e)))), hx'.ne, hx'.bp, hx'.b1, hx'.b2, hx'.hn, hx'.hl, hx'.wi⟩

/-- One of them. -/
theorem Law.at {W w : World} {O : List Nat} {l : List (Nat × DS)} (h : Law W w O l) {i : Nat} {p : Nat} {s : DS} (hi : l[i]? = some (p, s)) :
    ∃ F, F.p = p ∧ Dk w W.heap.size F s ∧ (∀ k, F.kv.ownBlock = some k → k ∉ O) ∧ ∀ {w' : World} {F' : Foot} {s' : DS}, F'.p = p → Dk w' W.heap.size F' s' → Kept F.has w w' → (∀ k, (F'.has k → F.has k ∨ w.heap.size ≤ k) ∧ (F'.kv.ownBlock = some k → F.kv.ownBlock = some k ∨ w.heap.size ≤ k)) → Law W w' O (l.set i (p, s')) ∧ KeptD w w' := by
  obtain ⟨k1, k0, fs, k2, k3⟩ := h
  subst k2
  rw [List.getElem?_map, Option.map_eq_some_iff] at hi
  obtain ⟨⟨F, s0⟩, hF, he⟩ := hi
  simp only [Prod.mk.injEq] at he
  obtain ⟨rfl, rfl⟩ := he
  obtain ⟨hi, hFe⟩ := List.getElem?_eq_some_iff.1 hF
  have hmem : (F, s0) ∈ fs := by rw [← hFe]; exact List.getElem_mem _
  have hD := k3.each _ hmem
  refine ⟨F, rfl, hD, k3.keeps _ hmem, fun {w' F' s'} hp hd hk hn => ⟨⟨?_, fun r hr => ⟨(k0 r hr).1, Nat.lt_of_lt_of_le (k0 r hr).2 hk.size⟩, fs.set i (F', s'), ?_, ?_, ?_, ?_⟩, hk.more (fun k hs _ => hD.kind hs)⟩⟩
  · exact hk.grown (fun k hk => (hD.from hk).1) k1
  · rw [List.map_set, hp]
  · intro x hx
    obtain ⟨j, hj, rfl⟩ := List.mem_iff_getElem.1 hx
    rw [List.getElem_set]
    split
    · exact hd
    · rename_i hne
      have hj' : j < fs.length := by simpa using hj
      have hp2 : ∀ k, fs[j].1.has k → ¬ F.has k := by
        intro k h1 h2
        have hpw := List.pairwise_iff_getElem.1 k3.apart
        rcases Nat.lt_or_gt_of_ne hne with hlt | hlt
        · have := hpw i j hi hj' hlt k
          rw [hFe] at this
          exact this h2 h1
        · have := hpw j i hj' hi hlt k h1
          rw [hFe] at this
          exact this h2
      exact (k3.each _ (List.getElem_mem _)).keep hk (fun k hs => .inl (hD.kind hs)) hp2
  · refine List.pairwise_iff_getElem.2 (fun a b ha hb hab k => ?_)
    have ha' : a < fs.length := by simpa using ha
    have hb' : b < fs.length := by simpa using hb
    have hpw := List.pairwise_iff_getElem.1 k3.apart a b ha' hb' hab k
    rw [List.getElem_set, List.getElem_set]
    intro h1 h2
    split at h1
    · rename_i e1
      rw [if_neg (by omega)] at h2
      subst e1
      rw [hFe] at hpw
      rcases (hn k).1 h1 with h | h
      · exact hpw h h2
      · have := ((k3.each _ (List.getElem_mem hb')).from h2).2; omega
    · split at h2
      · rename_i e2
        subst e2
        rw [hFe] at hpw
        rcases (hn k).1 h2 with h | h
        · exact hpw h1 h
        · have := ((k3.each _ (List.getElem_mem ha')).from h1).2; omega
      · exact hpw h1 h2
  · intro x hx k hkk hO
    obtain ⟨j, hj, rfl⟩ := List.mem_iff_getElem.1 hx
    rw [List.getElem_set] at hkk
    split at hkk
    · rcases (hn k).2 hkk with h | h
      · exact k3.keeps _ hmem k h hO
      · have := (k0 k hO).2; omega
    · exact k3.keeps _ (List.getElem_mem _) k hkk hO
/-- One more. -/
theorem Law.more {W w w' : World} {O : List Nat} {l : List (Nat × DS)} (h : Law W w O l) {F : Foot} {s : DS} (hd : Dk w' W.heap.size F s) (hg : w.grownBy w' none) (hF : ∀ k, F.has k → w.heap.size ≤ k) (hk : ∀ k, F.kv.ownBlock = some k → k ∉ O) : Law W w' O ((F.p, s) :: l) := by
  obtain ⟨k1, k0, fs, k2, k3⟩ := h.new hg
  obtain ⟨_, _, fs0, j2, j3⟩ := h
  refine ⟨k1, k0, (F, s) :: fs0, by rw [List.map_cons, j2], fun x hx => ?_, List.pairwise_cons.2 ⟨fun x hx k h1 h2 => ?_, j3.apart⟩, fun x hx => ?_⟩
  · rcases List.mem_cons.1 hx with rfl | hx
    · exact hd
    · exact (j3.each x hx).new hg
  · have := hF k h1
    have := ((j3.each x hx).from h2).2
    omega
  · rcases List.mem_cons.1 hx with rfl | hx
    · exact hk
    · exact j3.keeps x hx
/-- Two change places. -/
theorem Law.swap {W w : World} {O : List Nat} {x y : Nat × DS} {l : List (Nat × DS)} (h : Law W w O (x :: y :: l)) : Law W w O (y :: x :: l) := by
  obtain ⟨h1, h2, fs, h3, h4⟩ := h
  match fs, h3 with
  | a :: b :: fs, h3 =>
    simp only [List.map_cons, List.cons.injEq] at h3
    obtain ⟨e1, e2, e3⟩ := h3
    have hp := List.pairwise_cons.1 h4.apart
    have hq := List.pairwise_cons.1 hp.2
    have mem : ∀ z, z ∈ b :: a :: fs → z ∈ a :: b :: fs := fun z hz => by
      rcases List.mem_cons.1 hz with rfl | hz
      · simp
      · rcases List.mem_cons.1 hz with rfl | hz
        · simp
        · simp [hz]
    refine ⟨h1, h2, b :: a :: fs, by simp [e1, e2, e3], ⟨fun x hx => h4.each x (mem x hx), List.pairwise_cons.2 ⟨fun z hz => ?_, List.pairwise_cons.2 ⟨fun z hz => hp.1 z (by simp [hz]), hq.2⟩⟩, fun x hx => h4.keeps x (mem x hx)⟩⟩
    rcases List.mem_cons.1 hz with rfl | hz
    · exact fun k k1 k2 => hp.1 b (by simp) k k2 k1
    · exact hq.1 z hz

theorem KeptD.blk {w w' : World} (h : KeptD w w') {r : Nat} {t : TypeId} {cs : Array Value} (hb : Blk w r t cs) (h1 : t ≠ 63) (h2 : t ≠ 67) : Blk w' r t cs := Kept.blk h hb (kind_cells hb h1 h2)
theorem KeptD.size {w w' : World} (h : KeptD w w') : w.heap.size ≤ w'.heap.size := Kept.size h

/-! The calls, among several disks. -/
/-- What a call leaves that works on one of them. -/
def LDoes (W w : World) (O : List Nat) (l : List (Nat × DS)) (i p : Nat) (r : DS × Int) (e : Ending) (w' : World) : Prop := e = .returned (.int .i64 r.2) ∧ Law W w' O (l.set i (p, r.1)) ∧ KeptD w w'
/-- .. that makes one. -/
def LMakes (W w : World) (O : List Nat) (l : List (Nat × DS)) (s : DS) (f : Value → Ending) (e : Ending) (w' : World) : Prop := ∃ p, e = f (.pointer (some ⟨p, 0, none⟩)) ∧ Law W w' O ((p, s) :: l) ∧ w.grownBy w' none

section
variable {W w : World} {O : List Nat} {l : List (Nat × DS)}
theorem lift {i p : Nat} {s : DS} (h : Law W w O l) (hi : l[i]? = some (p, s)) {f : Nat} {args : Array Value} {r : DS × Int} (hc : ∀ F, F.p = p → Dk w W.heap.size F s → Calls Try.prog f args w (Does w W.heap.size F r.1 r.2)) : Calls Try.prog f args w (LDoes W w O l i p r) := by
  obtain ⟨F, hp, hD, _, hnext⟩ := h.at hi
  refine (hc F hp hD).mono ?_
  rintro e w' ⟨F', rfl, h1, h2, h3, h4⟩
  obtain ⟨k1, k2⟩ := hnext (h1.trans hp) h2 h3 h4
  exact ⟨rfl, k1, k2⟩
theorem lNew (h : Law W w O l) (n : Nat) (h1 : 64 ≤ n) (h2 : n ≤ 8192) : Calls Try.prog 10 #[.int .i64 (n : Int)] w (LMakes W w O l (DS.new n) fun v => .returned (.tuple #[v, .int .i64 0])) := by
  refine (New_any n w W.heap.size h1 h2 h.size).mono ?_
  rintro e w' ⟨F, rfl, k1, k2, k3, k4⟩
  exact ⟨F.p, rfl, h.more k1 k2 k4 (fun k hk => by rw [k3] at hk; cases hk), k2⟩
theorem lCopy {i p : Nat} {s : DS} (h : Law W w O l) (hi : l[i]? = some (p, s)) (hm : s.m ≤ 1000000000) : Calls Try.prog 23 #[dptr p] w (LMakes W w O l s Ending.returned) := by
  obtain ⟨F, rfl, hD, hkv, _⟩ := h.at hi
  refine (Copy_any hD h.size hm).mono ?_
  rintro e w' ⟨G, rfl, k1, k2, k3, k4⟩
  exact ⟨G.p, rfl, h.more k1 k2 k4 (fun k hk => hkv k (k3 ▸ hk)), k2⟩
theorem lBoot {i p : Nat} {s : DS} (h : Law W w O l) (hi : l[i]? = some (p, s)) (hm : s.m ≤ 1000000000) (hd : s.dd = true) : Calls Try.prog 11 #[dptr p] w (LMakes W w O l s.anew fun v => .returned (.tuple #[v, .int .i64 0])) := by
  obtain ⟨F, rfl, hD, hkv, _⟩ := h.at hi
  refine (Boot_any hD h.size hm hd).mono ?_
  rintro e w' ⟨G, rfl, k1, k2, k3, k4⟩
  exact ⟨G.p, rfl, h.more k1 k2 k4 (fun k hk => hkv k (k3 ▸ hk)), k2⟩
theorem lBoot_no {i p : Nat} {s : DS} (h : Law W w O l) (hi : l[i]? = some (p, s)) (hd : s.dd = false) : Calls Try.prog 11 #[dptr p] w fun e w' => e = .returned (.tuple #[.pointer none, .int .i64 50]) ∧ w = w' := by
  obtain ⟨F, rfl, hD, _, _⟩ := h.at hi
  exact Boot_no hD hd
theorem lBooted {i p : Nat} {s : DS} (h : Law W w O l) (hi : l[i]? = some (p, s)) (hm : s.m ≤ 1000000000) (hd : s.dd = true) : Calls Try.prog 22 #[dptr p] w (LMakes W w O l s.anew Ending.returned) := by
  obtain ⟨F, rfl, hD, hkv, _⟩ := h.at hi
  refine (booted_any hD h.size hm hd).mono ?_
  rintro e w' ⟨G, rfl, k1, k2, k3, k4⟩
  exact ⟨G.p, rfl, h.more k1 k2 k4 (fun k hk => hkv k (k3 ▸ hk)), k2⟩
theorem lBooted_no {i p : Nat} {s : DS} (h : Law W w O l) (hi : l[i]? = some (p, s)) (hd : s.dd = false) : Calls Try.prog 22 #[dptr p] w fun e w' => e = .returned (.pointer none) ∧ w = w' := by
  obtain ⟨F, rfl, hD, _, _⟩ := h.at hi
  exact booted_no hD hd
theorem lIs {i p : Nat} {s : DS} (h : Law W w O l) (hi : l[i]? = some (p, s)) (k : Int) (hk : -9223372036854775808 ≤ k ∧ k ≤ 9223372036854775807) (c : UInt8) : Calls Try.prog 17 #[dptr p, .int .i64 k, .int .u8 (c.toNat : Int)] w (Asks w (isB (s.read k) c)) := by
  obtain ⟨F, rfl, hD, _, _⟩ := h.at hi
  exact is_any hD k hk c
theorem lRead {i p : Nat} {s : DS} (h : Law W w O l) (hi : l[i]? = some (p, s)) (k : Int) (hk : -9223372036854775808 ≤ k ∧ k ≤ 9223372036854775807) : Calls Try.prog 12 #[dptr p, .int .i64 k] w (Gives w (s.read k).1 (s.read k).2) := by
  obtain ⟨F, rfl, hD, _, _⟩ := h.at hi
  exact Read_any hD k hk
theorem lBlocks {i p : Nat} {s : DS} (h : Law W w O l) (hi : l[i]? = some (p, s)) : Calls Try.prog 13 #[dptr p] w (Tells w (s.n : Int)) := by
  obtain ⟨F, rfl, hD, _, _⟩ := h.at hi
  exact Blocks_any hD
theorem lDead {i p : Nat} {s : DS} (h : Law W w O l) (hi : l[i]? = some (p, s)) : Calls Try.prog 19 #[dptr p] w (Says w s.dd) := by
  obtain ⟨F, rfl, hD, _, _⟩ := h.at hi
  exact Dead_any hD
theorem lWaiting {i p : Nat} {s : DS} (h : Law W w O l) (hi : l[i]? = some (p, s)) : Calls Try.prog 20 #[dptr p] w (Tells w (s.wt.length : Int)) := by
  obtain ⟨F, rfl, hD, _, _⟩ := h.at hi
  exact Waiting_any hD
theorem lWrite {i p : Nat} {s : DS} (h : Law W w O l) (hi : l[i]? = some (p, s)) (hm : s.m ≤ 100000000) (k : Int) (hk : -9223372036854775808 ≤ k ∧ k ≤ 9223372036854775807) (b : Bk) : Calls Try.prog 14 #[dptr p, .int .i64 k, .agg b.v] w (LDoes W w O l i p (s.write k b)) := by
  refine lift h hi (fun F hp hD => ?_)
  subst hp
  by_cases h0 : s.has k = 0
  · obtain ⟨_, hk0, _⟩ := DS.has_0 h0
    obtain ⟨j, rfl⟩ := Int.eq_ofNat_of_zero_le hk0
    exact Write_on hD h.size hm j b h0
  · exact Write_off hD k hk b h0
theorem lFlush {i p : Nat} {s : DS} (h : Law W w O l) (hi : l[i]? = some (p, s)) (hm : s.m ≤ 1000000000) : Calls Try.prog 18 #[dptr p] w (LDoes W w O l i p s.flush) :=
  lift h hi (fun F hp hD => by subst hp; exact Flush_any hD hm)
theorem lCut {i p : Nat} {s : DS} (h : Law W w O l) (hi : l[i]? = some (p, s)) (k : Int) (hk : -9223372036854775808 ≤ k ∧ k ≤ 9223372036854775807) {v : Value} {ks : List Bool} (hv : Bls w v ks) (hl : ks.length ≤ 140737488355328) : Calls Try.prog 16 #[dptr p, .int .i64 k, v] w (LDoes W w O l i p (s.cut k ks)) :=
  lift h hi (fun F hp hD => by subst hp; exact Cut_any hD k hk hv hl)
theorem DS.fail_dead {s : DS} (h : s.dd = true) (ks : List Bool) : s.fail ks = (s, 51) := by unfold DS.fail; rw [if_pos h]
theorem DS.fail_live {s : DS} (h : s.dd = false) (ks : List Bool) : s.fail ks = (s.gone ks, 0) := by unfold DS.fail; rw [if_neg (by rw [h]; simp)]
theorem lFail {i p : Nat} {s : DS} (h : Law W w O l) (hi : l[i]? = some (p, s)) (hm : s.m ≤ 1000000000) {v : Value} {ks : List Bool} (hv : Bls w v ks) : Calls Try.prog 21 #[dptr p, v] w (LDoes W w O l i p (s.fail ks)) :=
  lift h hi (fun F hp hD => by
    subst hp
    rcases hd : s.dd with _ | _
    · rw [DS.fail_live hd]; exact Fail_live hD hm hd hv
    · rw [DS.fail_dead hd]; exact Fail_dead hD hd v)
end
end Go.Proofs.Ytnnhnkpbiilooaa
