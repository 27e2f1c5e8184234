/- disk: rows and maps cloned, maps laid into one another. -/
import Derived.Test.YtnnhnkpbiilooaaDkH
import Derived.Shelf.SlMaps.Clone
namespace Go.Proofs.Ytnnhnkpbiilooaa
open Go.RowKit Go.Maps

/-- The writes, in new memory. -/
def NewWr (w : World) (l : List (Nat × Bk)) (e : Ending) (w' : World) : Prop := ∃ v, e = .returned v ∧ Wr w' w.heap.size v l ∧ w.grownBy w' none ∧ ∃ a n c, v = .slice a n c

set_option maxRecDepth 20000 in
set_option maxHeartbeats 400000 in
theorem cloneWr_any {w : World} {base : Nat} {v : Value} {l : List (Nat × Bk)} (h : Wr w base v l) (hl : l.length ≤ 1000000000) : Calls Try.prog 40 #[v] w (NewWr w l) := by
  rcases RowOf.form h with ⟨rfl, hk⟩ | ⟨g, c, rfl, _⟩
  · have hk : l = [] := by simpa using hk
    subst hk
    have e1 := @Lib.run_eql_slice_nil Try.prog
    go_enter Try.func40, Try.ntmps40
    go_wp2_with fail
    go_ret
    exact ⟨_, rfl, Wr.nil _ _, World.grownBy.refl _ _, ⟨_, _, _, rfl⟩⟩
  · have HBL := Blk.made w 67 #[]
    have hg := World.grownBy_alloc w (.cells #[] 67) none
    have h1 : Wr _ _ _ _ := RowOf.new h hg
    obtain ⟨v', w', k1, k2, k3, _, a', n', c', rfl⟩ := Wr.clone h1 (by omega) HBL (Nat.le_refl _) 61
    have HRUN := Lib.hid k1
    have H2 := Lib.hid k2
    have H3 := Lib.hid (grown_new hg k3 (Nat.le_refl _))
    clear k1 k2 k3 h h1 HBL hg
    have e1 := @Lib.run_eql_slice_nil Try.prog
    go_enter Try.func40, Try.ntmps40
    go_wp2_with (at_builtin; refine Lib.wpList_append_run _ rfl _ _ _ _ rfl _ _ rfl rfl _ _ HRUN.out ?_)
    go_ret
    exact ⟨_, rfl, H2.out, H3.out, ⟨_, _, _, rfl⟩⟩

theorem Mp.entries {w : World} {b c : Nat} {f : Nat → Option Bk} (h : Mp w b c f) : ∃ es clock, w.heap[b]? = some (.map es clock) := h.kind
/-- A map of blocks, cloned. -/
def NewMp (w : World) (c : Nat) (f : Nat → Option Bk) (e : Ending) (w' : World) : Prop := ∃ m, e = .returned (.map (some m)) ∧ Mp w' m c f ∧ w.grownBy w' none ∧ w.heap.size ≤ m

set_option maxRecDepth 20000 in
set_option maxHeartbeats 2000000 in
theorem cloneMp_any {w : World} {b c : Nat} {f : Nat → Option Bk} (h : Mp w b c f) : Calls Try.prog 39 #[.map (some b)] w (NewMp w c f) := by
  obtain ⟨D, ⟨es, clock, hb, F, hs, hD⟩, hf⟩ := h
  have hN : Mp (w.alloc (.map es clock)) w.heap.size c f := ⟨D, ⟨es, clock, (MapKept.heap_alloc w _).1, F, hs, hD⟩, hf⟩
  have hG := World.grownBy_alloc w (.map es clock) none
  have HN := Lib.hid hN
  have HG := Lib.hid hG
  clear hN hG F hf hs hD
  have hq := fun w => run_eql_map_nil_sl (P := Try.prog) w 60 _ _ (some b) undM
  go_enter Try.func39, Try.ntmps39
  go_wp2
  rw [run_callFunc_extern Try.func44 (by kernel_rfl) (by kernel_rfl) (by kernel_rfl) (e := Extern.MapsClone.clone) (by kernel_rfl), run_maps_clone_sl w 60 hb]
  simp only [Result.andThen]
  rw [Oper.upon_value]
  go_wp2
  rw [run_typeAssert_map_sl _ 60 _ _ _ _ undM]
  simp only [Result.andThen]
  rw [Oper.upon_value]
  go_wp2
  go_ret
  exact ⟨_, rfl, HN.out, HG.out, Nat.le_refl _⟩

/-- What maps.Copy leaves. -/
def CopiesMp (w : World) (bd c : Nat) (f : Nat → Option Bk) (e : Ending) (w' : World) : Prop := e = .returned (.tuple #[]) ∧ Mp w' bd c f ∧ Kept (· = bd) w w'

theorem left_step {f' fd fs : Nat → Option Bk} {left : Lit → Bool} {x : Nat} {y : Bk} (h : ∀ k : Nat, f' k = if left (.int .i64 (k : Int)) = true then fd k else over fd fs k) (hx : fs x = some y) :
    ∀ k : Nat, upd f' x y k = if (left (.int .i64 (k : Int)) && !(Lit.int .i64 (k : Int)).sameKey (.int .i64 (x : Int))) = true then fd k else over fd fs k := by
  intro k
  unfold upd
  by_cases e : k = x
  · subst e
    rw [if_pos rfl, WideAt.sameKey_self (by trivial)]
    simp [over, hx]
  · rw [if_neg e, h k, sameKey_ne (lit_ne e)]
    simp

set_option maxRecDepth 100000 in
set_option maxHeartbeats 4000000 in
theorem copyMp_any {w : World} {bd bs nd ns : Nat} {fd fs : Nat → Option Bk} (hd : Mp w bd nd fd) (hs : Mp w bs ns fs) (hne : bd ≠ bs) (hroom : nd + ns ≤ 1000000000000) :
    Calls Try.prog 37 #[.map (some bd), .map (some bs)] w (CopiesMp w bd (nd + ns) (over fd fs)) := by
  have hbd := hd.lt
  have hbs := hs.lt
  obtain ⟨Ds, hs0, hf, hneg⟩ := hs
  have hsz := hs0.size_le
  have HF := Lib.hid hf
  have HNEG := Lib.hid hneg
  have HD := Lib.hid hd
  clear hf hneg hd
  go_enter Try.func37, Try.ntmps37
  go_wp2_with (first
    | (at_range; refine wpList_range_own _ rfl _ 60 rfl 3 29 intK undM bkR bs ns _ rfl hs0 ?_; intro w0 hrg0 hg0 hs1)
    | fail)
  go_frame
  go_loopw [8] (fun _ wr => ∃ (left : Lit → Bool) (cnt : Nat) (f' : Nat → Option Bk), wr.ranges Try.prog 3 bkR bs w.heap.size ns Ds left cnt ∧ cnt ≤ Maps.size Ds ∧
      Mp wr bd (nd + (Maps.size Ds - cnt)) f' ∧ (∀ k : Nat, f' k = if left (.int .i64 (k : Int)) = true then fd k else over fd fs k) ∧ Kept (· = bd) w wr)
    (fun _ wr => wr.rangeLeft bs w.heap.size)
  case atStart =>
    refine ⟨_, _, fun k => if Maps.has Ds (.int .i64 (k : Int)) = true then fd k else over fd fs k, hrg0, Nat.le_refl _, ((HD.out.new hg0).mono (by omega)).ext (fun k hk => ?_), fun k => rfl, Kept.new hg0⟩
    obtain ⟨h1, _⟩ := HF.out k hk
    rw [h1]
    unfold over
    cases fs k <;> rfl
  case round =>
    obtain ⟨left, cnt, f', hrg, hcs, hout, hM, hgw⟩ := hrel
    have HM := Lib.hid hM
    have HO := Lib.hid hout
    have HK := Lib.hid hgw
    clear hM hout hgw
    go_wp2_with (first
      | (at_next; refine wpList_next_ranges _ rfl _ rfl 3 intK bkR (Value.int .i64) (fun b : Bk => Value.agg b.v) (fun key kl hkey => by obtain ⟨x, rfl, _⟩ := Maps.keyOf_int_inv undI hkey; exact ⟨x, rfl⟩) (fun v y hv => by obtain ⟨b, rfl, _⟩ := bkR_inv hv; exact ⟨b, rfl⟩) bs w.heap.size ns _ _ _ rfl hrg ?_ ?_)
      | fail)
    · intro hc0 hl0
      have HC := Lib.hid hc0
      have HL0 := Lib.hid hl0
      clear hc0 hl0
      go_wp2_with fail
      go_end0
      refine ⟨rfl, ((HO.out.mono (by omega)).ext (fun k hk => ?_)), HK.out⟩
      rw [HM.out k, HL0.out]
      rfl
    · intro x c kl yd yp w1 cnt1 hkey hlx hv hat hrg1 hlt hg1 hsz1 hen
      obtain ⟨x', ex, rfl, hwx⟩ := Maps.keyOf_int_inv undI hkey
      cases ex
      obtain ⟨c', ec, ey⟩ := bkR_inv hv
      cases ey
      have ec' : Value.agg c.v = Value.agg c'.v := ec
      have hcc : c.v = c'.v := by injection ec'
      have hcc := Bk.inj hcc
      subst hcc
      clear ec'
      have hhas := has_true_of_atKey hat
      have hx0 : 0 ≤ x := by
        rcases Int.lt_or_le x 0 with h | h
        · rw [HNEG.out x h] at hhas; cases hhas
        · exact h
      have hx1 : x ≤ 9223372036854775807 := by
        simp [Lit.wf, IntKind.min, IntKind.max, IntKind.signed, IntKind.bits] at hwx
        omega
      obtain ⟨j, rfl⟩ := Int.eq_ofNat_of_zero_le hx0
      have HJ := Lib.hid hx1
      have hfs : fs j = some c := by
        obtain ⟨h1, h2⟩ := HF.out j hx1
        have h3 := h2 (.held Bk.zero)
        rw [hat] at h3
        rw [h1] at hhas
        cases hfj : fs j with
        | none => rw [hfj] at hhas; cases hhas
        | some z => rw [hfj] at h3; simp at h3; rw [h3]
      have HFS := Lib.hid hfs
      have K1 : Hid (Kept (· = bd) w w1) := Lib.hid (HK.out.then (Kept.of (S := (· = w.heap.size)) hg1 (fun k e => .inl (by cases e; rfl))) (fun i e => .inr (Nat.le_of_eq e.symm)))
      have HO1 : Hid (Mp w1 bd (nd + (Maps.size Ds - cnt)) f') := Lib.hid ((Kept.of (S := (· = w.heap.size)) hg1 (fun k e => .inl (by cases e; rfl))).mp HO.out (by omega))
      have HRG1 := Lib.hid hrg1
      have HLX := Lib.hid hlx
      clear hkey hat hhas hx0 hx1 hwx hfs hg1 hrg1 hlx ec hv
      go_upto_region 3 with (first
        | (refine wpAllocB rfl rfl ?_; intro g2 w2 hn2; have N2 := Lib.hid hn2; clear hn2)
        | (refine wpStoreB rfl (.tmp 5) (.tmp 12) rfl g2 _ _ rfl rfl N2.out.blk ?_; intro w3 hb3 hg3; have B3 := Lib.hid hb3; have G3 := Lib.hid (grown_new N2.out.grown hg3 N2.out.ge); clear hb3 hg3))
      have HO3 := Lib.hid (HO1.out.new G3.out)
      have HRG3 := Lib.hid (HRG1.out.kept G3.out (by simp) (by simp))
      have K3 := Lib.hid (K1.out.trans (Kept.new G3.out))
      have hcap : nd + (Maps.size Ds - cnt) < maxLen := by unfold maxLen; omega
      have HCAP := Lib.hid hcap
      clear hcap
      go_wp2_with (first
        | (refine wpLoadB rfl (.tmp 5) rfl g2 _ rfl B3.out ?_)
        | (refine wpMpPut rfl _ _ _ rfl bd _ _ j _ rfl rfl rfl HJ.out HCAP.out HO3.out ?_; intro w4 hm4 hg4; have M4 := Lib.hid hm4; have G4 := Lib.hid hg4; clear hm4 hg4; go_frame))
      have hrg4 := HRG3.out.kept G4.out (fun e => hne (Option.some.inj e).symm) (fun e => by have := Option.some.inj e; omega)
      go_roundw
      case rel => exact ⟨_, cnt1, _, hrg4, by omega, M4.out.mono (by omega), left_step HM.out HFS.out, K3.out.trans (Kept.of G4.out (fun k e => .inl (by cases e; rfl)))⟩
      case measure => rw [hrg4.left_eq, hrg.left_eq]; exact hlt
end Go.Proofs.Ytnnhnkpbiilooaa
