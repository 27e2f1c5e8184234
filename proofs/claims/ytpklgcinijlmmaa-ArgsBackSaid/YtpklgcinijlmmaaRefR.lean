/- The document's answers of layer 1: the reader. -/
import Derived.Test.YtpklgcinijlmmaaRef
import Derived.Test.YtpklgcinijlmmaaNew
namespace Go.Proofs.Ytpklgcinijlmmaa
open Go.RowKit

/-- The document's reader: bad with nothing, or good with what is left. -/
def RRdr (w : World) (r : Nat) (g : Option Nat) (bs : List UInt8) (bad : Bool) : Prop :=
  ∃ v, Two w r 132 v (.bool bad) ∧ Bts w v bs ∧ (v.ownBlock = none ∨ v.ownBlock = g) ∧ g ≠ some r ∧ (bad = true → bs = [])

def RRdrS (w : World) (r : Nat) (g : Option Nat) (s : St) : Prop := RRdr w r g (s.getD []) s.isNone

def RRd (w : World) (r : Nat) (g : Option Nat) (v : Value) (s : St) (e : Ending) (w' : World) : Prop :=
  e = .returned v ∧ RRdrS w' r g s ∧ w.grownBy w' (some r)

theorem RRdrS.kept {w w' : World} {r : Nat} {g : Option Nat} {s : St} {row : Option Nat} (h : RRdrS w r g s) (hg : w.grownBy w' row) (h1 : row ≠ some r) (h2 : g = none ∨ g ≠ row) : RRdrS w' r g s := by
  obtain ⟨v, k1, k2, k3, k4, k5⟩ := h
  refine ⟨v, k1.kept hg (fun e => h1 e.symm), k2.kept hg ?_, k3, k4, k5⟩
  rcases k3 with k3 | k3
  · exact .inl k3
  · rw [k3]; exact h2

theorem RRdrS.new {w w' : World} {r : Nat} {g : Option Nat} {s : St} (h : RRdrS w r g s) (hg : w.grownBy w' none) : RRdrS w' r g s := h.kept hg (by simp) (by cases g <;> simp)

set_option maxRecDepth 20000 in
set_option maxHeartbeats 400000 in
theorem refFail_any (r : Nat) (v y : Value) (g : Option Nat) (w : World) (hg : g ≠ some r) (hr : Two w r 132 v y) :
    Calls Try.prog 95 #[.pointer (some ⟨r, 0, none⟩)] w (RRd w r g (.tuple #[]) none) := by
  have h0 := hr.c0
  have h1 := hr.c1
  have f0 := hr.f0
  have f1 := hr.f1
  have h0' := (hr.set1 (.bool true)).c0
  have f0' := (hr.set1 (.bool true)).f0
  have HR := Lib.hid hr; clear hr
  have HG := Lib.hid hg; clear hg
  go_enter Try.func95, Try.ntmps95
  go_wp2
  go_end0
  exact ⟨rfl, ⟨_, (HR.out.set1 _).set0 _, Bts.nil _, .inl rfl, HG.out, fun _ => rfl⟩, Lib.grownBy_setB (Lib.grownBy_setB (World.grownBy.refl _ _) _ _) _ _⟩

def partN (a b c d : Nat) : Nat → Nat
  | 0 => 0
  | 1 => a
  | 2 => a * 256 + b
  | 3 => (a * 256 + b) * 256 + c
  | _ => ((a * 256 + b) * 256 + c) * 256 + d

theorem partN_step (a b c d : UInt8) (j : Nat) (h : j < 4) : partN a.toNat b.toNat c.toNat d.toNat (j + 1) = partN a.toNat b.toNat c.toNat d.toNat j * 256 + ([a, b, c, d].getD j 0).toNat := by
  match j, h with
  | 0, _ => simp [partN]
  | 1, _ => rfl
  | 2, _ => rfl
  | 3, _ => rfl

theorem partN_lt (a b c d : UInt8) (j : Nat) (h : j < 4) : partN a.toNat b.toNat c.toNat d.toNat j < 16777216 := by
  have ha := a.toNat_lt; have hb := b.toNat_lt; have hc := c.toNat_lt; have hd := d.toNat_lt
  match j, h with
  | 0, _ => simp [partN]
  | 1, _ => simp only [partN]; omega
  | 2, _ => simp only [partN]; omega
  | 3, _ => simp only [partN]; omega

set_option maxRecDepth 20000 in
set_option maxHeartbeats 1000000 in
theorem refWord_no (r : Nat) (g : Option Nat) (bs : List UInt8) (bad : Bool) (w : World) (hr : RRdr w r g bs bad) (h : bs.length < 4) :
    Calls Try.prog 61 #[.pointer (some ⟨r, 0, none⟩)] w (RRd w r g (.int .u32 0) none) := by
  obtain ⟨v, ht, hv, hne, hgr, _⟩ := hr
  obtain ⟨a, c, rfl, hl, hm⟩ := hv.form
  have HF := Lib.hid (refFail_any r _ _ g w hgr ht)
  have c0 := ht.c0
  clear ht hv hne hgr hl hm
  generalize bs.length = n at *
  go_enter Try.func61, Try.ntmps61
  go_wp2_with fail
  refine HF.out.mono ?_; rintro e w2 ⟨rfl, h2, h3⟩
  have H2 := Lib.hid h2; have H3 := Lib.hid h3; clear h2 h3
  go_wp2_with fail
  go_ret
  exact ⟨rfl, H2.out, H3.out⟩

set_option maxRecDepth 20000 in
set_option maxHeartbeats 1000000 in
theorem refWord_yes (r : Nat) (g : Option Nat) (a b c d : UInt8) (bs : List UInt8) (w : World) (hr : RRdr w r g (a :: b :: c :: d :: bs) false) :
    Calls Try.prog 61 #[.pointer (some ⟨r, 0, none⟩)] w (RRd w r g (.int .u32 (n4 a b c d)) (some bs)) := by
  obtain ⟨v, ht, hv, hne, hgr, _⟩ := hr
  obtain ⟨v2, e2, b2, o2⟩ := hv.cut_lo und22 siz5 4 (by simp)
  rw [show ((4 : Nat) : Int) = 4 from rfl] at e2
  obtain ⟨gb, o, cp, rfl, hcs⟩ := hv.cell (by simp)
  obtain ⟨a2, n2, c2, rfl⟩ := b2.shape
  have hm : (a :: b :: c :: d :: bs).length ≤ maxLen := by obtain ⟨_, _, _, h1, h2⟩ := hv.form; omega
  have h4 : 4 ≤ (a :: b :: c :: d :: bs).length := by simp
  have c0 := ht.c0
  have f0 := ht.f0
  have HC : Hid (∀ j, j < 4 → w.cell? ⟨gb, o + j, none⟩ = some (.int .u8 (([a, b, c, d].getD j 0).toNat : Int))) := Lib.hid (fun j hj => by
    have := hcs j (by omega)
    rw [this]
    match j, hj with
    | 0, _ => rfl
    | 1, _ => rfl
    | 2, _ => rfl
    | 3, _ => rfl)
  have HT := Lib.hid (ht.set0 (.slice a2 n2 c2)); have HB2 := Lib.hid b2
  have HN := Lib.hid hne; have HO2 := Lib.hid o2; have HGR := Lib.hid hgr
  have HE : Hid ((partN a.toNat b.toNat c.toNat d.toNat 4 : Int) = n4 a b c d) := Lib.hid (by
    have e : partN a.toNat b.toNat c.toNat d.toNat 4 = ((a.toNat * 256 + b.toNat) * 256 + c.toNat) * 256 + d.toNat := rfl
    rw [e]; unfold n4 num4; omega)
  unfold maxLen at hm
  clear ht hv hne b2 o2 hgr hcs
  generalize (a :: b :: c :: d :: bs).length = n at *
  go_enter Try.func61, Try.ntmps61
  go_wp2_with fail
  go_loop [3, 4] (fun s i => ∃ j : Nat, j ≤ 4 ∧ i = .int .i64 j ∧ s = .int .u32 (partN a.toNat b.toNat c.toNat d.toNat j : Int)) (fun _ i => 4 - (intOf i).toNat)
  case atStart => exact ⟨0, by omega, rfl, rfl⟩
  case round =>
    obtain ⟨j, hj, rfl, rfl⟩ := hrel
    by_cases hlt : j < 4
    · have hc := HC.out j hlt
      have HP := Lib.hid (partN_step a b c d j hlt)
      have hl := partN_lt a b c d j hlt
      have hb := UInt8.toNat_lt ([a, b, c, d].getD j 0)
      generalize partN a.toNat b.toNat c.toNat d.toNat j = q at *
      generalize ([a, b, c, d].getD j 0).toNat = y at *
      clear e2 f0
      go_wp2
      go_round
      case rel => exact ⟨j + 1, by omega, by go_num, by rw [HP.out]; go_num⟩
      case measure => simp [intOf]; omega
    · obtain rfl : j = 4 := by omega
      clear hlt
      rw [HE.out]
      go_wp2_with fail
      go_ret
      have hg : w.grownBy (w.setCell ⟨r, 0, none⟩ (.slice a2 n2 c2)) (some r) := Lib.grownBy_setB (World.grownBy.refl _ _) 0 _
      have own : ((Value.slice a2 n2 c2).ownBlock = none ∨ (Value.slice a2 n2 c2).ownBlock = g) := by
        rcases HO2.out with h | h
        · exact .inl h
        · rw [h]; exact HN.out
      refine ⟨rfl, ⟨_, HT.out, HB2.out.kept hg ?_, own, HGR.out, fun h => by cases h⟩, hg⟩
      rcases own with h | h
      · exact .inl h
      · exact .inr (by rw [h]; exact HGR.out)

theorem refWord_s (r : Nat) (g : Option Nat) (s : St) (w : World) (hr : RRdrS w r g s) :
    Calls Try.prog 61 #[.pointer (some ⟨r, 0, none⟩)] w (RRd w r g (.int .u32 (rWord s).1) (rWord s).2) := by
  match s, hr with
  | none, hr => exact refWord_no r g [] true w hr (by simp)
  | some (a :: b :: c :: d :: bs), hr => exact refWord_yes r g a b c d bs w hr
  | some [], hr => exact refWord_no r g _ false w hr (by simp)
  | some [_], hr => exact refWord_no r g _ false w hr (by simp)
  | some [_, _], hr => exact refWord_no r g _ false w hr (by simp)
  | some [_, _, _], hr => exact refWord_no r g _ false w hr (by simp)
end Go.Proofs.Ytpklgcinijlmmaa
