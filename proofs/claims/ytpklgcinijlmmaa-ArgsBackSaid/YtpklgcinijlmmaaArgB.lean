/- Arguments as words: what changes something; a handle read; a reader beside two structs of the call's own. -/
import Derived.Test.YtpklgcinijlmmaaArgA
import Derived.Test.YtpklgcinijlmmaaRefF
import Derived.Test.YtpklgcinijlmmaaOnto
import Derived.Deep.DeepCutAuto
namespace Go.Proofs.Ytpklgcinijlmmaa
open Go.RowKit

set_option maxRecDepth 20000 in
set_option maxHeartbeats 1000000 in
theorem changes_any (k : Int) (p : PA) (w : World) : Calls Try.prog 24 #[.int .i64 k, paV p] w fun e w' => e = .returned (.bool (pChanges k p)) ∧ w.grownBy w' none := by
  have HB := Lib.hid (show pChanges k p = pChanges k p from rfl)
  have HV : Hid ((k = 6 ∧ pChanges k p = (p.b != 0)) ∨ (k = 2 ∧ pChanges k p = true) ∨ (7 ≤ k ∧ k ≤ 13 ∧ pChanges k p = true) ∨ (k = 17 ∧ pChanges k p = true) ∨ (k = 18 ∧ pChanges k p = true) ∨ (k < 7 ∧ k ≠ 6 ∧ k ≠ 2 ∧ pChanges k p = false) ∨ (13 < k ∧ k ≠ 17 ∧ k ≠ 18 ∧ pChanges k p = false)) := Lib.hid (by
    unfold pChanges
    by_cases h6 : k = 6
    · exact .inl ⟨h6, if_pos h6⟩
    · rw [if_neg h6]
      by_cases h2 : k = 2
      · exact .inr (.inl ⟨h2, by simp [h2]⟩)
      · by_cases h7 : 7 ≤ k
        · by_cases h13 : k ≤ 13
          · exact .inr (.inr (.inl ⟨h7, h13, by simp [h7, h13]⟩))
          · by_cases h17 : k = 17
            · exact .inr (.inr (.inr (.inl ⟨h17, by simp [h17]⟩)))
            · by_cases h18 : k = 18
              · exact .inr (.inr (.inr (.inr (.inl ⟨h18, by simp [h18]⟩))))
              · exact .inr (.inr (.inr (.inr (.inr (.inr ⟨by omega, h17, h18, by simp [h2, h17, h18, h13]⟩)))))
        · exact .inr (.inr (.inr (.inr (.inr (.inl ⟨by omega, h6, h2, by simp [h2, h7]; omega⟩))))))
  generalize pChanges k p = B at *
  obtain ⟨⟨h1, h2, h3⟩, ⟨t1, t2, t3⟩, n, o, x, a, q, m, s, b, g, v⟩ := p
  unfold paV paC txt
  dsimp only at HV ⊢
  rcases HV.out with ⟨rfl, rfl⟩ | ⟨rfl, rfl⟩ | ⟨k1, k2, rfl⟩ | ⟨rfl, rfl⟩ | ⟨rfl, rfl⟩ | ⟨k1, k2, k3, rfl⟩ | ⟨k1, k2, k3, rfl⟩
  all_goals
    clear HB HV
    go_enter Try.func24, Try.ntmps24
    go_wp2_with fail
    go_ret
    first
      | exact ⟨rfl, World.grownBy_alloc _ _ _⟩
      | exact ⟨retB (by simp; omega), World.grownBy_alloc _ _ _⟩

/-- A result's block R, a variable's block H, the document's reader r: all new. -/
def RK (W w : World) (R H r : Nat) (g : Option Nat) (t : TypeId) (zs xs : Array Value) (s : St) : Prop :=
  Blk w R t zs ∧ Blk w H t xs ∧ RRdrS w r g s ∧ W.grownBy w none ∧ (W.heap.size ≤ R ∧ W.heap.size ≤ H ∧ W.heap.size ≤ r) ∧ (R ≠ r ∧ H ≠ r ∧ R ≠ H ∧ g ≠ some H ∧ g ≠ some R) ∧ ∀ k, g = some k → k < w.heap.size

section
variable {W w w' : World} {R H r : Nat} {g : Option Nat} {t : TypeId} {zs xs : Array Value} {s s' : St}
theorem RK.rdr (h : RK W w R H r g t zs xs s) : RRdrS w r g s := h.2.2.1
theorem RK.grown (h : RK W w R H r g t zs xs s) : W.grownBy w none := h.2.2.2.1
theorem RK.res (h : RK W w R H r g t zs xs s) : Blk w R t zs := h.1
theorem RK.var (h : RK W w R H r g t zs xs s) : Blk w H t xs := h.2.1
theorem RK.new (h : RK W w R H r g t zs xs s) (hg : w.grownBy w' none) : RK W w' R H r g t zs xs s := by
  obtain ⟨h1, h2, h3, h4, h5, h6, h7⟩ := h
  exact ⟨h1.new hg, h2.new hg, h3.new hg, World.grownBy.trans h4 hg, h5, h6, fun k e => Nat.lt_of_lt_of_le (h7 k e) hg.size⟩
theorem RK.next (h : RK W w R H r g t zs xs s) (k2 : RRdrS w' r g s') (k3 : w.grownBy w' (some r)) : RK W w' R H r g t zs xs s' := by
  obtain ⟨h1, h2, h3, h4, h5, h6, h7⟩ := h
  exact ⟨h1.kept k3 (by simpa using h6.1), h2.kept k3 (by simpa using h6.2.1), k2, grown_own h4 k3 (fun n hn => by cases hn; exact h5.2.2), h5, h6, fun k e => Nat.lt_of_lt_of_le (h7 k e) k3.size⟩
theorem RK.set (h : RK W w R H r g t zs xs s) (i : Nat) (u : Value) : RK W (w.setCell ⟨H, i, none⟩ u) R H r g t zs (xs.setIfInBounds i u) s := by
  obtain ⟨h1, h2, h3, h4, h5, h6, h7⟩ := h
  have hg : w.grownBy (w.setCell ⟨H, i, none⟩ u) (some H) := Lib.grownBy_setB (World.grownBy.refl _ _) _ _
  refine ⟨h1.kept hg (by simpa using h6.2.2.1), h2.set i u, h3.kept hg (by simpa using h6.2.1) ?_, grown_own h4 hg (fun n hn => by cases hn; exact h5.2.1), h5, h6, fun k e => Nat.lt_of_lt_of_le (h7 k e) hg.size⟩
  exact .inr h6.2.2.2.1
theorem RK.gt (h : RK W w R H r g t zs xs s) : ∀ k, g = some k → k < w.heap.size := h.2.2.2.2.2.2
end

theorem RK.begin {W w0 w : World} {R : Nat} {t : TypeId} {zs xs : Array Value} {bs : List UInt8} {r : Nat} {g : Option Nat} (hR : Blk w0 R t zs) (hg0 : W.grownBy w0 none) (hR0 : W.heap.size ≤ R)
    (hs : RRdrS w r g (some bs)) (hg : w0.grownBy w none) (h1 : w0.heap.size ≤ r) (h2 : r < w.heap.size) (h3 : ∀ k, g = some k → w0.heap.size ≤ k ∧ k < w.heap.size) :
    RK W (w.alloc (.cells xs t)) R w.heap.size r g t zs xs (some bs) := by
  have ha := World.grownBy_alloc w (.cells xs t) none
  have hlt := hR.lt
  have s0 := hg0.size
  have s1 := hg.size
  refine ⟨(hR.new hg).new ha, Blk.made _ _ _, hs.new ha, World.grownBy.trans (World.grownBy.trans hg0 hg) ha, ⟨hR0, by omega, by omega⟩, ⟨by omega, by omega, by omega, fun e => ?_, fun e => ?_⟩, fun k e => ?_⟩
  · have := h3 _ e; omega
  · have := h3 _ e; omega
  · have := h3 _ e; have := ha.size; omega

/-- A handle read. -/
def hRd (s : St) : (Hn × Bool) × St := (((hDec fnv (rFixed 24 s).1).1, (hDec fnv (rFixed 24 s).1).2 == 0), (rFixed 24 s).2)

theorem rFixed_le (n : Int) (s : St) : ((rFixed n s).1).length ≤ (s.getD []).length ∧ (((rFixed n s).2).getD []).length ≤ (s.getD []).length := by
  cases s with
  | none => simp [rFixed]
  | some l =>
    unfold rFixed
    dsimp only
    split
    · simp; omega
    · simp

theorem grown_row {w a b : World} {r R : Nat} (h : w.grownBy a (some r)) (k : a.grownBy b (some R)) (hr : w.heap.size ≤ R) : w.grownBy b (some r) :=
  ⟨k.os.trans h.os, k.tape.trans h.tape, k.output.trans h.output, Nat.le_trans h.size k.size, fun i hi hne => (k.block i (Nat.lt_of_lt_of_le hi h.size) (fun e => by cases e; omega)).trans (h.block i hi hne)⟩

set_option maxRecDepth 20000 in
set_option maxHeartbeats 2000000 in
theorem handle_s (r : Nat) (g : Option Nat) (s : St) (w : World) (hr : RRdrS w r g s) (hb : (s.getD []).length ≤ 1000000) (hlt : r < w.heap.size) (hgk : ∀ k, g = some k → k < w.heap.size) :
    Calls Try.prog 51 #[.pointer (some ⟨r, 0, none⟩)] w fun e w' => e = .returned (.tuple #[hnV (hRd s).1.1, .bool (hRd s).1.2]) ∧ RRdrS w' r g (hRd s).2 ∧ w.grownBy w' (some r) := by
  have HL := Lib.hid (rFixed_le 24 s)
  have HBL := Lib.hid hb
  have HF := Lib.hid (fun (w : World) (hr : RRdrS w r g s) => refFixed_s r g s 24 w hr hb)
  unfold hRd
  generalize rFixed 24 s = p at *
  obtain ⟨tx, s'⟩ := p
  dsimp only at HL HF ⊢
  have HD := Lib.hid (fun w => rDec_any tx w (by have := HL.out.1; unfold maxLen; omega))
  generalize hDec fnv tx = q at *
  obtain ⟨⟨d1, d2, d3⟩, f⟩ := q
  unfold hnV
  dsimp only
  go_enter Try.func51, Try.ntmps51
  go_upto_region 1 with fail
  have hR := Blk.made w 24 #[.int .i64 0, .int .i64 0, .int .i64 0]
  have ga := World.grownBy_alloc w (.cells #[.int .i64 0, .int .i64 0, .int .i64 0] 24) (some r)
  have hr1 := hr.new (World.grownBy_alloc w (.cells #[.int .i64 0, .int .i64 0, .int .i64 0] 24) none)
  obtain ⟨R, hRR⟩ : ∃ R, R = w.heap.size := ⟨_, rfl⟩
  rw [← hRR] at hR ⊢
  have NR : Hid (R ≠ r ∧ g ≠ some R ∧ w.heap.size ≤ R) := Lib.hid ⟨by omega, fun e => by have := hgk _ e; omega, by omega⟩
  clear hr hRR hlt hgk hb
  generalize w.alloc (.cells #[.int .i64 0, .int .i64 0, .int .i64 0] 24) = w0 at *
  go_wp2_with fail
  refine (HF.out _ hr1).mono ?_; rintro e w1 ⟨rfl, hr2, g1⟩
  have B_r := Lib.hid (hR.kept g1 (by have := NR.out.1; simpa using this))
  have G := Lib.hid (World.grownBy.trans ga g1)
  have RD := Lib.hid hr2
  clear hR ga hr1 g1 hr2
  go_wp2_with fail
  refine (HD.out _).mono ?_; rintro e w2 ⟨rfl, g1⟩
  replace B_r := Lib.hid (B_r.out.new g1)
  replace G := Lib.hid (World.grownBy.trans G.out (grownBy_none g1 _))
  replace RD := Lib.hid (RD.out.new g1)
  clear g1
  try unfold hnV
  go_upto_region 2 with fail
  have hb := Blk.made w2 24 #[.int .i64 d1, .int .i64 d2, .int .i64 d3]
  have ga := World.grownBy_alloc w2 (.cells #[.int .i64 d1, .int .i64 d2, .int .i64 d3] 24) none
  replace B_r := Lib.hid (B_r.out.new ga)
  replace G := Lib.hid (World.grownBy.trans G.out (grownBy_none ga _))
  replace RD := Lib.hid (RD.out.new ga)
  generalize w2.alloc (.cells #[.int .i64 d1, .int .i64 d2, .int .i64 d3] 24) = w3 at *
  generalize w2.heap.size = H at *
  have c0 := hb.cell (i := 0) (x := .int .i64 d1) rfl
  have c1 := hb.cell (i := 1) (x := .int .i64 d2) rfl
  have c2 := hb.cell (i := 2) (x := .int .i64 d3) rfl
  have r0 := B_r.out.cell (i := 0) (x := .int .i64 0) rfl
  have r1 := B_r.out.cell (i := 1) (x := .int .i64 0) rfl
  have r2 := B_r.out.cell (i := 2) (x := .int .i64 0) rfl
  have e0 := B_r.out.frozen 0
  have e1 := B_r.out.frozen 1
  have e2 := B_r.out.frozen 2
  clear hb ga
  go_wp2_with fail
  have gs := Lib.grownBy_setB (Lib.grownBy_setB (Lib.grownBy_setB (World.grownBy.refl w3 (some R)) 0 (.int .i64 d1)) 1 (.int .i64 d2)) 2 (.int .i64 d3)
  have hb := ((B_r.out.set 0 (.int .i64 d1)).set 1 (.int .i64 d2)).set 2 (.int .i64 d3)
  have hg := grown_row G.out gs NR.out.2.2
  have hrd := RD.out.kept gs (by have := NR.out.1; simpa using this) (.inr NR.out.2.1)
  clear gs c0 c1 c2 r0 r1 r2 e0 e1 e2 B_r
  generalize World.setCell _ _ _ = wE at *
  have k0 := hb.cell (i := 0) (x := .int .i64 d1) rfl
  have k1 := hb.cell (i := 1) (x := .int .i64 d2) rfl
  have k2 := hb.cell (i := 2) (x := .int .i64 d3) rfl
  exact bodyPost_ret (v := .tuple #[.agg #[.int .i64 d1, .int .i64 d2, .int .i64 d3], .bool (f == 0)]) (by simp [results, Try.results51, go_sem, k0, k1, k2]) rfl ⟨rfl, hrd, hg⟩
end Go.Proofs.Ytpklgcinijlmmaa
