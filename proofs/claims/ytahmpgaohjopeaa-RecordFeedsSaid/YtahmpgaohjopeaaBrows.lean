/- Rows of bytes that came in; how long they are. -/
import Derived.Test.YtahmpgaohjopeaaRefD
import Derived.Test.YtahmpgaohjopeaaLaw
import Derived.Deep.Matrix
namespace Go.Proofs.Ytahmpgaohjopeaa
open Go.RowKit

/-- A slice of slices of bytes. -/
def BRows (w : World) (v : Value) (bss : List (List UInt8)) : Prop :=
  (v = .slice none 0 0 ∧ bss = []) ∨ (∃ b o c, v = .slice (some ⟨b, o, none⟩) bss.length c ∧ bss.length ≤ c ∧ c ≤ maxLen ∧ ∀ i (h : i < bss.length), ∃ u, w.cell? ⟨b, o + i, none⟩ = some u ∧ Bts w u bss[i]) ∨ ∃ a, v = .slice (some a) 0 0 ∧ bss = []

theorem BRows.form {w : World} {v : Value} {bss : List (List UInt8)} (h : BRows w v bss) : ∃ a c, v = .slice a bss.length c ∧ bss.length ≤ c ∧ c ≤ maxLen := by
  rcases h with ⟨rfl, rfl⟩ | ⟨b, o, c, rfl, h1, h2, _⟩ | ⟨a, rfl, rfl⟩
  · exact ⟨none, 0, rfl, Nat.le_refl _, Nat.zero_le _⟩
  · exact ⟨_, _, rfl, h1, h2⟩
  · exact ⟨_, 0, rfl, Nat.le_refl _, Nat.zero_le _⟩

theorem BRows.at {w : World} {v : Value} {bss : List (List UInt8)} (h : BRows w v bss) (h0 : 0 < bss.length) : ∃ b o c, v = .slice (some ⟨b, o, none⟩) bss.length c ∧ ∀ i (h : i < bss.length), ∃ u, w.cell? ⟨b, o + i, none⟩ = some u ∧ Bts w u bss[i] := by
  rcases h with ⟨_, rfl⟩ | ⟨b, o, c, rfl, _, _, h3⟩ | ⟨a, _, rfl⟩
  · exact absurd h0 (by simp)
  · exact ⟨b, o, c, rfl, h3⟩
  · exact absurd h0 (by simp)

section
variable {H : Type} {enc : TypeId × Value → H} {P : Program}
open Go.ChangeShapes Go.WideShapes Go.ChangeAt
/-- Rows of bytes that came in. -/
theorem open_rows {t e q : TypeId} (ht : P.underlying t = some (.slice e)) (he : P.underlying e = some (.slice q)) (hq : P.underlying q = some (.int .u8)) (ce : P.cellsOf e = 1) (cq : P.cellsOf q = 1) {W : World} {base : Nat} {v : Value} {d : DataW H} {p : List MemPlace} (hval : Value.okWide P W .any base t v)
    (h : DataW.Trod enc P W 0 (fun _ => true) true t v d p) : ∃ bss, BRows W v bss := by
  obtain ⟨a1, len, cap, rfl⟩ := okWide_slice ht hval
  obtain ⟨fuel, hf⟩ := h
  rcases Deep.open_int_rows ht he hq ce cq hf with ⟨hcs, _⟩ | ⟨a, len', cap', A, L, C, Z, hcs, _, hl, hm, _, hrow⟩
  · simp [Value.cells] at hcs
    obtain ⟨rfl, rfl, rfl⟩ := hcs
    exact ⟨[], .inl ⟨rfl, rfl⟩⟩
  · simp [Value.cells] at hcs
    obtain ⟨rfl, rfl, rfl⟩ := hcs
    by_cases h0 : cap = 0
    · obtain rfl : cap = 0 := h0
      obtain rfl : len = 0 := by omega
      exact ⟨[], .inr (.inr ⟨a, rfl, rfl⟩)⟩
    · obtain ⟨ab, ao, spot⟩ := a
      have hspot : spot = none := by simpa [Addr.add] using World.cell?_spot (hrow 0 (by omega)).1
      subst hspot
      refine ⟨(List.range len).map fun r => (Z r).take (L r) |>.map fun n => UInt8.ofNat n.toNat, .inr (.inl ⟨ab, ao, cap, by simp, by simpa using hl, hm, fun i hi => ?_⟩)⟩
      simp only [List.length_map, List.length_range] at hi
      obtain ⟨q1, q2, q3, q4, q5, q6, q7⟩ := hrow i (by omega)
      rw [add_off] at q1
      refine ⟨_, q1, ?_⟩
      simp only [List.getElem_map, List.getElem_range]
      have hlen : (((Z i).take (L i)).map fun n => UInt8.ofNat n.toNat).length = L i := by simp; omega
      rcases hA : A i with _ | a'
      · have := q6 hA
        have h1 : L i = 0 := by omega
        rw [this, h1]
        refine .inl ⟨rfl, ?_⟩
        simp
      · by_cases hc0 : C i = 0
        · have h1 : L i = 0 := by omega
          rw [hc0, h1]
          exact .inr (.inr ⟨a', rfl, by simp⟩)
        · obtain ⟨_, q8⟩ := q7 a' hA
          obtain ⟨bb, bo, spot⟩ := a'
          have hspot : spot = none := by simpa [Addr.add] using World.cell?_spot (q8 0 (by omega))
          subst hspot
          refine .inr (.inl ⟨bb, bo, C i, by rw [hlen], by rw [hlen]; exact q2, q3, fun j hj => ?_⟩)
          rw [hlen] at hj
          have hcj := q8 j (by omega)
          rw [add_off] at hcj
          rw [hcj]
          have hb := q5 ((Z i).getD j 0) (by simp [List.getD, List.getElem?_eq_getElem (show j < (Z i).length by omega)])
          simp [Lit.wf, IntKind.min, IntKind.max, IntKind.signed, IntKind.bits] at hb
          simp only [List.getElem_map, List.getElem_take, UInt8.toNat_ofNat']
          simp [List.getD, List.getElem?_eq_getElem (show j < (Z i).length by omega)] at hb ⊢
          omega
end

theorem flat_succ (bss : List (List UInt8)) (k : Nat) (h : k < bss.length) : (bss.take (k + 1)).flatten = (bss.take k).flatten ++ bss[k] := by
  rw [List.take_succ_eq_append_getElem h, List.flatten_append]
  simp

/-- Whether chunks are more than a statement hands in. -/
def LongR (w : World) (bss : List (List UInt8)) (e : Ending) (w' : World) : Prop := w = w' ∧ ∃ b : Bool, e = .returned (.bool b) ∧ (b = false → bss.flatten.length ≤ 9000)

set_option maxHeartbeats 800000 in
theorem long_any (v : Value) (bss : List (List UInt8)) (w : World) (hv : BRows w v bss) :
    Calls Try.prog 8 #[v] w (LongR w bss) := by
  obtain ⟨a1, c1, rfl, h1, h2⟩ := hv.form
  have hl : (bss.length : Int) ≤ 9223372036854775807 := by unfold maxLen at h2; omega
  have HV := Lib.hid hv
  clear hv h1 h2
  by_cases hbig : 200 < bss.length
  · have hbig' : (200 : Int) < bss.length := by omega
    go_enter Try.func8, Try.ntmps8
    go_wp2_with fail
    go_ret
    exact ⟨rfl, true, rfl, fun h => by cases h⟩
  · have hbig' : (bss.length : Int) ≤ 200 := by omega
    go_enter Try.func8, Try.ntmps8
    go_wp2_with fail
    go_loop [3, 4] (fun n i => ∃ k : Nat, k ≤ bss.length ∧ i = .int .i64 k ∧ n = .int .i64 ((bss.take k).flatten.length : Nat) ∧ (bss.take k).flatten.length ≤ 9000) (fun _ i => bss.length - (intOf i).toNat)
    case atStart => exact ⟨0, Nat.zero_le _, rfl, rfl, by simp⟩
    case round =>
      obtain ⟨k, hk, rfl, rfl, hn⟩ := hrel
      by_cases hk1 : k < bss.length
      · obtain ⟨b, o, c, e, hcell⟩ := HV.out.at (by omega)
        cases e
        obtain ⟨u, hc, hu⟩ := hcell k hk1
        obtain ⟨au, cu, rfl, hu1, hu2⟩ := hu.form
        have hs := flat_succ bss k hk1
        have hs2 := congrArg List.length hs
        rw [List.length_append] at hs2
        have hk2 : (k : Int) < bss.length := by omega
        have hk3 : (0 : Int) ≤ k := by omega
        have hul : (bss[k].length : Int) ≤ 9223372036854775807 := by unfold maxLen at hu2; omega
        have HS2 := Lib.hid hs2
        clear hcell hu hs hs2 hu1 hu2
        generalize (bss.take k).flatten.length = nn at *
        generalize bss[k].length = m at *
        have hnn : (nn : Int) ≤ 9000 := by omega
        by_cases hm : 9000 < m
        · have hm' : (9000 : Int) < m := by omega
          go_wp2_with fail
          go_ret
          exact ⟨rfl, true, rfl, fun h => by cases h⟩
        · have hm' : (m : Int) ≤ 9000 := by omega
          by_cases hsum : 9000 < nn + m
          · have hsum' : (9000 : Int) < (nn : Int) + m := by omega
            go_wp2_with fail
            go_ret
            exact ⟨rfl, true, rfl, fun h => by cases h⟩
          · have hsum' : (nn : Int) + m ≤ 9000 := by omega
            go_wp2_with fail
            go_round
            case rel => exact ⟨k + 1, by omega, by go_num, by rw [HS2.out]; go_num, by rw [HS2.out]; omega⟩
            case measure => simp [intOf]; omega
      · have hk2 : (bss.length : Int) ≤ k := by omega
        have hfin : bss.flatten.length ≤ 9000 := by
          rw [List.take_of_length_le (by omega)] at hn
          exact hn
        have HF := Lib.hid hfin
        clear hfin hn
        generalize (bss.take k).flatten.length = nn at *
        go_wp2_with fail
        go_ret
        exact ⟨rfl, false, rfl, fun _ => HF.out⟩
end Go.Proofs.Ytahmpgaohjopeaa
