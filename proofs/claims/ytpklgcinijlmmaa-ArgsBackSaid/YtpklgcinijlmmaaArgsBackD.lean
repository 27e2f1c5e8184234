/- ArgsWords, walked. -/
import Derived.Test.YtpklgcinijlmmaaArgsBackA
import Derived.Deep.DeepCutAuto
import Derived.Test.YtpklgcinijlmmaaArgQ
import Derived.Test.YtpklgcinijlmmaaArcF
import Derived.Test.YtpklgcinijlmmaaHanC
import Derived.Deep.Slices
import Derived.Deep.Fields
import Derived.Test.YtpklgcinijlmmaaArgE
namespace Go.Proofs.Ytpklgcinijlmmaa
open Go.RowKit

def tellsT : List (List UInt8) := [[], [65], [65], [72, 65], [116], [116, 101, 65], [78, 118, 65], [72, 65], [72, 65], [72, 65], [], [], [], [65], [69, 101, 118], [78, 102, 117], [118], [72], []]
theorem rowAt_tells (k : Int) : rowAt tellsT k = if 0 ≤ k ∧ k < 19 then tells k.toNat else [] := by
  unfold rowAt
  have hl : (tellsT.length : Int) = 19 := rfl
  rw [hl]
  by_cases h : 0 ≤ k ∧ k < 19
  · rw [if_pos h, if_pos h]
    obtain ⟨q, rfl⟩ := Int.eq_ofNat_of_zero_le h.1
    rw [Int.toNat_natCast]
    rcases (show q = 0 ∨ q = 1 ∨ q = 2 ∨ q = 3 ∨ q = 4 ∨ q = 5 ∨ q = 6 ∨ q = 7 ∨ q = 8 ∨ q = 9 ∨ q = 10 ∨ q = 11 ∨ q = 12 ∨ q = 13 ∨ q = 14 ∨ q = 15 ∨ q = 16 ∨ q = 17 ∨ q = 18 by omega) with rfl | rfl | rfl | rfl | rfl | rfl | rfl | rfl | rfl | rfl | rfl | rfl | rfl | rfl | rfl | rfl | rfl | rfl | rfl <;> rfl
  · rw [if_neg h, if_neg h]
theorem tells_isR (k : Nat) : ∀ c ∈ tells k, isR c := by
  intro c hc
  unfold tells at hc
  split at hc <;> simp at hc <;> (try rcases hc with rfl | rfl | rfl) <;> (try rcases hc with rfl | rfl) <;> simp_all [isR]
theorem tells_len (k : Nat) : (tells k).length ≤ 3 := by
  unfold tells
  split <;> simp
theorem rowAt_isR (k : Int) : ∀ c ∈ rowAt tellsT k, isR c := by
  rw [rowAt_tells]
  split
  · exact tells_isR _
  · intro c hc; exact absurd hc (by simp)
theorem rowAt_tlen (k : Int) : (rowAt tellsT k).length ≤ 3 := by
  rw [rowAt_tells]
  split
  · exact tells_len _
  · simp
theorem Bts.none {w w' : World} {v : Value} (h : Bts w v []) : Bts w' v [] := by
  rcases h with h | ⟨b, o, c, rfl, h1, h2, h3⟩ | h
  · exact .inl h
  · exact .inr (.inl ⟨b, o, c, rfl, h1, h2, fun i hi => absurd hi (by simp)⟩)
  · exact .inr (.inr h)

set_option maxRecDepth 20000 in
set_option maxHeartbeats 4000000 in
/-- The closure of Tell is called by E and, if that is 0, by each field, in their order. I: what holds behind these letters; L: a block that the closure leaves. -/
theorem tells_Tell (k : Int) (R B : Nat) (E : Int) (I : Nat → List UInt8 → World → Prop) (w : World) (h0 : ∀ L, w.heap.size ≤ L → I L [] w) (hnew : ∀ L p w w', I L p w → w.grownBy w' none → I L p w')
    (hstep : ∀ L p c w, (isR c ∨ c = 0) → p.length < 100 → I L p w → L < w.heap.size → Calls Try.prog 35 #[resV R c, .pointer (some ⟨B, 0, none⟩)] w fun e w' => e = .returned (.tuple #[]) ∧ I L (p ++ [c]) w' ∧ w'.heap[L]? = w.heap[L]?)
    (hE : ∀ L w, I L [0] w → w.cell? ⟨R, 0, none⟩ = some (.int .i64 E)) :
    Calls Try.prog 34 #[.int .i64 k, .pointer (some ⟨R, 0, none⟩), .func (.func 35) #[] #[.pointer (some ⟨B, 0, none⟩)]] w fun e w' => e = .returned (.bool (decide (0 ≤ k ∧ k < 19))) ∧ ∃ L, I L (if E = 0 then 0 :: rowAt tellsT k else [0]) w' := by
  have H0 := Lib.hid h0
  have HN := Lib.hid hnew
  have HSt := Lib.hid hstep
  have HEE := Lib.hid hE
  have HT := Lib.hid (Tab.made w)
  have HIS := Lib.hid (rowAt_isR k)
  have hl100 := rowAt_tlen k
  obtain ⟨is, hi⟩ : ∃ is, decide (0 ≤ k ∧ k < 19) = is := ⟨_, rfl⟩
  obtain ⟨l, hl⟩ : ∃ l, rowAt tellsT k = l := ⟨_, rfl⟩
  rw [hi, hl]
  rw [hl] at HIS hl100
  obtain ⟨QL, hq⟩ : ∃ QL, (if E = 0 then 0 :: l else [0]) = QL := ⟨_, rfl⟩
  rw [hq]
  have HQL := Lib.hid hq
  clear hq
  have HI := Lib.hid hi
  have HL := Lib.hid hl
  have HLN : Hid (l.length ≤ 3) := Lib.hid hl100
  clear h0 hnew hstep hi hl hl100 hE
  have hmm := fun w => run_makeMap (P := Try.prog) 95 w
  go_enter Try.func34, Try.ntmps34
  go_wp2_with (first
    | (refine wpList_letters rfl 94 _ _ rfl (fun a w => by kernel_rfl) HT.out (by decide) ?_; rintro v1 w1 h1 h2 h3; clear HT; have HT := Lib.hid h1; have HB := Lib.hid h2; have HO := Lib.hid h3; clear h1 h2 h3; (try go_simp))
    | (refine wpList_insert_tab rfl _ _ _ rfl undLM und3 w.heap.size _ _ _ rfl rfl rfl HT.out HB.out HO.out ?_; rintro w2 h1; clear HT HB HO; have HT := Lib.hid h1; clear h1; (try go_simp))
    | (refine wpList_lookup_tab rfl _ _ rfl undLM und3 zeroLet w.heap.size tellsT k is l rfl rfl HT.out HI.out HL.out ?_; rintro v1 h1 h2; have HG := Lib.hid HT.out.1; have HMB := Lib.hid ((Array.getElem?_eq_some_iff.1 HT.out.2.2.choose_spec.1).1); clear HT; obtain ⟨a1, c1, rfl, h3, h4⟩ := h1.form; have HB := Lib.hid h1; have HO := Lib.hid h2; clear h1 h2 h3 h4; (try go_simp)))
  have hl100 : (l.length : Int) ≤ 3 := by have := HLN.out; omega
  obtain ⟨L, hL⟩ : ∃ L, w.heap.size ≤ L ∧ L < w2.heap.size ∧ (l ≠ [] → ∀ k, (Value.slice a1 l.length c1).ownBlock = some k → k = L) := by
    by_cases hn : l = []
    · exact ⟨w.heap.size, Nat.le_refl _, HMB.out, fun h => absurd hn h⟩
    · have hpos : 0 < l.length := List.length_pos_iff.2 hn
      obtain ⟨g, o, c, hv, hc⟩ := HB.out.cell hpos
      cases hv
      exact ⟨g, HO.out _ rfl, World.block_lt_of_cell? _ _ (hc 0 hpos), fun _ k hk => by cases hk; rfl⟩
  have HLL := Lib.hid hL
  clear hL
  have hq : resV R 0 = .iface 104 (.pointer (some ⟨R, 0, none⟩)) := rfl
  have HC0 := Lib.hid (HSt.out L [] 0 w2 (.inr rfl) (by simp) (HN.out L [] w w2 (H0.out L HLL.out.1) HG.out) HLL.out.2.1)
  rw [hq] at HC0
  clear hq
  refine HC0.out.mono ?_; rintro e w3 ⟨rfl, hI, hLL⟩
  have HB3 : Hid (Bts w3 (.slice a1 l.length c1) l) := Lib.hid (by
    by_cases hn : l = []
    · have h := HB.out
      rw [hn] at h ⊢
      exact h.none
    · exact HB.out.keepAt (fun k hk => by rw [HLL.out.2.2 hn k hk]; exact hLL))
  have HI3 := Lib.hid hI
  have c0 := HEE.out L w3 hI
  clear hI hLL HC0 HB
  by_cases he : E = 0
  · subst he
    have HQ2 : Hid (QL = 0 :: l) := Lib.hid (by rw [← HQL.out, if_pos rfl])
    go_wp2_with fail
    clear c0
    go_loopw [51] (fun i w' => ∃ j : Nat, j ≤ l.length ∧ i = .int .i64 j ∧ I L (0 :: l.take j) w' ∧ Bts w' (.slice a1 l.length c1) l) (fun i w' => l.length - (intOf i).toNat)
    case atStart => exact ⟨0, Nat.zero_le _, rfl, HI3.out, HB3.out⟩
    case round =>
      obtain ⟨j, hj, rfl, hI, hB⟩ := hrel
      have HII := Lib.hid hI
      have HBB := Lib.hid hB
      clear hI hB
      by_cases hlt : j < l.length
      · obtain ⟨g, o, c, hv, hc⟩ := HBB.out.cell (by omega)
        cases hv
        have hcell := hc j hlt
        have hne : l ≠ [] := fun e => by rw [e] at hlt; simp at hlt
        have hgL : g = L := HLL.out.2.2 hne g rfl
        have HLT := Lib.hid (show L < _ from hgL ▸ World.block_lt_of_cell? _ _ hcell)
        have HNE := Lib.hid hne
        clear hgL hne
        have hx := Lib.hid (HIS.out l[j] (List.getElem_mem hlt))
        have htk : Hid ((0 : UInt8) :: l.take (j + 1) = (0 :: l.take j) ++ [l[j]]) := Lib.hid (by rw [List.take_succ_eq_append_getElem hlt]; rfl)
        generalize l[j] = x at *
        clear hc
        go_wp2_with fail
        refine (res_any R x hx.out _).mono ?_; rintro e w2 ⟨rfl, rfl⟩
        go_wp2_with fail
        refine (HSt.out L (0 :: l.take j) x _ (.inl hx.out) (by have := HLN.out; rw [List.length_cons, List.length_take]; omega) HII.out HLT.out).mono ?_; rintro e w2 ⟨rfl, h1, h2⟩
        have H1 := Lib.hid h1
        have H2 := Lib.hid h2
        clear h1 h2
        go_wp2_with fail
        go_roundw
        case rel => exact ⟨j + 1, by omega, by go_num, by rw [htk.out]; exact H1.out, HBB.out.keepAt (fun k hk => by rw [HLL.out.2.2 HNE.out k hk]; exact H2.out)⟩
        case measure => simp [intOf]; omega
      · obtain rfl : j = l.length := by omega
        go_wp2_with fail
        go_ret
        have := HII.out
        rw [List.take_length] at this
        exact ⟨rfl, L, by rw [HQ2.out]; exact this⟩
  · have HQ2 : Hid (QL = [0]) := Lib.hid (by rw [← HQL.out, if_neg he])
    have h1 : (E != 0) = true := by simpa using he
    have h2 : (E == 0) = false := by simpa using he
    go_wp2_with fail
    go_ret
    exact ⟨rfl, L, by rw [HQ2.out]; exact HI3.out⟩


set_option maxRecDepth 20000 in
set_option maxHeartbeats 4000000 in
/-- The closure of Hear is called by E and, if that is 0, by each field, in their order. I: what holds behind these letters; L: a block that the closure leaves. -/
theorem tells_Hear (k : Int) (R B C : Nat) (E : Int) (I : Nat → List UInt8 → World → Prop) (w : World) (h0 : ∀ L, w.heap.size ≤ L → I L [] w) (hnew : ∀ L p w w', I L p w → w.grownBy w' none → I L p w')
    (hstep : ∀ L p c w, (isR c ∨ c = 0) → p.length < 100 → I L p w → L < w.heap.size → Calls Try.prog 40 #[resV R c, .pointer (some ⟨B, 0, none⟩), .pointer (some ⟨C, 0, none⟩)] w fun e w' => e = .returned (.tuple #[]) ∧ I L (p ++ [c]) w' ∧ w'.heap[L]? = w.heap[L]?)
    (hE : ∀ L w, I L [0] w → w.cell? ⟨R, 0, none⟩ = some (.int .i64 E)) :
    Calls Try.prog 34 #[.int .i64 k, .pointer (some ⟨R, 0, none⟩), .func (.func 40) #[] #[.pointer (some ⟨B, 0, none⟩), .pointer (some ⟨C, 0, none⟩)]] w fun e w' => e = .returned (.bool (decide (0 ≤ k ∧ k < 19))) ∧ ∃ L, I L (if E = 0 then 0 :: rowAt tellsT k else [0]) w' := by
  have H0 := Lib.hid h0
  have HN := Lib.hid hnew
  have HSt := Lib.hid hstep
  have HEE := Lib.hid hE
  have HT := Lib.hid (Tab.made w)
  have HIS := Lib.hid (rowAt_isR k)
  have hl100 := rowAt_tlen k
  obtain ⟨is, hi⟩ : ∃ is, decide (0 ≤ k ∧ k < 19) = is := ⟨_, rfl⟩
  obtain ⟨l, hl⟩ : ∃ l, rowAt tellsT k = l := ⟨_, rfl⟩
  rw [hi, hl]
  rw [hl] at HIS hl100
  obtain ⟨QL, hq⟩ : ∃ QL, (if E = 0 then 0 :: l else [0]) = QL := ⟨_, rfl⟩
  rw [hq]
  have HQL := Lib.hid hq
  clear hq
  have HI := Lib.hid hi
  have HL := Lib.hid hl
  have HLN : Hid (l.length ≤ 3) := Lib.hid hl100
  clear h0 hnew hstep hi hl hl100 hE
  have hmm := fun w => run_makeMap (P := Try.prog) 95 w
  go_enter Try.func34, Try.ntmps34
  go_wp2_with (first
    | (refine wpList_letters rfl 94 _ _ rfl (fun a w => by kernel_rfl) HT.out (by decide) ?_; rintro v1 w1 h1 h2 h3; clear HT; have HT := Lib.hid h1; have HB := Lib.hid h2; have HO := Lib.hid h3; clear h1 h2 h3; (try go_simp))
    | (refine wpList_insert_tab rfl _ _ _ rfl undLM und3 w.heap.size _ _ _ rfl rfl rfl HT.out HB.out HO.out ?_; rintro w2 h1; clear HT HB HO; have HT := Lib.hid h1; clear h1; (try go_simp))
    | (refine wpList_lookup_tab rfl _ _ rfl undLM und3 zeroLet w.heap.size tellsT k is l rfl rfl HT.out HI.out HL.out ?_; rintro v1 h1 h2; have HG := Lib.hid HT.out.1; have HMB := Lib.hid ((Array.getElem?_eq_some_iff.1 HT.out.2.2.choose_spec.1).1); clear HT; obtain ⟨a1, c1, rfl, h3, h4⟩ := h1.form; have HB := Lib.hid h1; have HO := Lib.hid h2; clear h1 h2 h3 h4; (try go_simp)))
  have hl100 : (l.length : Int) ≤ 3 := by have := HLN.out; omega
  obtain ⟨L, hL⟩ : ∃ L, w.heap.size ≤ L ∧ L < w2.heap.size ∧ (l ≠ [] → ∀ k, (Value.slice a1 l.length c1).ownBlock = some k → k = L) := by
    by_cases hn : l = []
    · exact ⟨w.heap.size, Nat.le_refl _, HMB.out, fun h => absurd hn h⟩
    · have hpos : 0 < l.length := List.length_pos_iff.2 hn
      obtain ⟨g, o, c, hv, hc⟩ := HB.out.cell hpos
      cases hv
      exact ⟨g, HO.out _ rfl, World.block_lt_of_cell? _ _ (hc 0 hpos), fun _ k hk => by cases hk; rfl⟩
  have HLL := Lib.hid hL
  clear hL
  have hq : resV R 0 = .iface 104 (.pointer (some ⟨R, 0, none⟩)) := rfl
  have HC0 := Lib.hid (HSt.out L [] 0 w2 (.inr rfl) (by simp) (HN.out L [] w w2 (H0.out L HLL.out.1) HG.out) HLL.out.2.1)
  rw [hq] at HC0
  clear hq
  refine HC0.out.mono ?_; rintro e w3 ⟨rfl, hI, hLL⟩
  have HB3 : Hid (Bts w3 (.slice a1 l.length c1) l) := Lib.hid (by
    by_cases hn : l = []
    · have h := HB.out
      rw [hn] at h ⊢
      exact h.none
    · exact HB.out.keepAt (fun k hk => by rw [HLL.out.2.2 hn k hk]; exact hLL))
  have HI3 := Lib.hid hI
  have c0 := HEE.out L w3 hI
  clear hI hLL HC0 HB
  by_cases he : E = 0
  · subst he
    have HQ2 : Hid (QL = 0 :: l) := Lib.hid (by rw [← HQL.out, if_pos rfl])
    go_wp2_with fail
    clear c0
    go_loopw [51] (fun i w' => ∃ j : Nat, j ≤ l.length ∧ i = .int .i64 j ∧ I L (0 :: l.take j) w' ∧ Bts w' (.slice a1 l.length c1) l) (fun i w' => l.length - (intOf i).toNat)
    case atStart => exact ⟨0, Nat.zero_le _, rfl, HI3.out, HB3.out⟩
    case round =>
      obtain ⟨j, hj, rfl, hI, hB⟩ := hrel
      have HII := Lib.hid hI
      have HBB := Lib.hid hB
      clear hI hB
      by_cases hlt : j < l.length
      · obtain ⟨g, o, c, hv, hc⟩ := HBB.out.cell (by omega)
        cases hv
        have hcell := hc j hlt
        have hne : l ≠ [] := fun e => by rw [e] at hlt; simp at hlt
        have hgL : g = L := HLL.out.2.2 hne g rfl
        have HLT := Lib.hid (show L < _ from hgL ▸ World.block_lt_of_cell? _ _ hcell)
        have HNE := Lib.hid hne
        clear hgL hne
        have hx := Lib.hid (HIS.out l[j] (List.getElem_mem hlt))
        have htk : Hid ((0 : UInt8) :: l.take (j + 1) = (0 :: l.take j) ++ [l[j]]) := Lib.hid (by rw [List.take_succ_eq_append_getElem hlt]; rfl)
        generalize l[j] = x at *
        clear hc
        go_wp2_with fail
        refine (res_any R x hx.out _).mono ?_; rintro e w2 ⟨rfl, rfl⟩
        go_wp2_with fail
        refine (HSt.out L (0 :: l.take j) x _ (.inl hx.out) (by have := HLN.out; rw [List.length_cons, List.length_take]; omega) HII.out HLT.out).mono ?_; rintro e w2 ⟨rfl, h1, h2⟩
        have H1 := Lib.hid h1
        have H2 := Lib.hid h2
        clear h1 h2
        go_wp2_with fail
        go_roundw
        case rel => exact ⟨j + 1, by omega, by go_num, by rw [htk.out]; exact H1.out, HBB.out.keepAt (fun k hk => by rw [HLL.out.2.2 HNE.out k hk]; exact H2.out)⟩
        case measure => simp [intOf]; omega
      · obtain rfl : j = l.length := by omega
        go_wp2_with fail
        go_ret
        have := HII.out
        rw [List.take_length] at this
        exact ⟨rfl, L, by rw [HQ2.out]; exact this⟩
  · have HQ2 : Hid (QL = [0]) := Lib.hid (by rw [← HQL.out, if_neg he])
    have h1 : (E != 0) = true := by simpa using he
    have h2 : (E == 0) = false := by simpa using he
    go_wp2_with fail
    go_ret
    exact ⟨rfl, L, by rw [HQ2.out]; exact HI3.out⟩


end Go.Proofs.Ytpklgcinijlmmaa
namespace Go.Proofs.Ytpklgcinijlmmaa
open Go.RowKit

/-- A field's words (0: E). -/
def rF (p : PR) (c : UInt8) : List UInt8 := if c = 0 then word4 (lo32 p.e) else if c = 72 then (hEnc fnv p.h).1 else if c = 65 then attrB p.a else if c = 116 then textB p.x else if c = 78 then longB (bits64 p.n) else if c = 102 then longB (bits64 p.f) else if c = 117 then longB p.u.toNat else if c = 101 then flagB p.d else if c = 69 then ensB p.es else longB p.v.toNat
def rWs (q : List UInt8) (p : PR) : List UInt8 := q.flatMap (rF p)
/-- A result that has room. -/
def RB (p : PR) : Prop := (0 ≤ p.a.k ∧ p.a.k < 256) ∧ (0 ≤ p.u ∧ p.u < 18446744073709551616) ∧ (0 ≤ p.v ∧ p.v < 18446744073709551616) ∧ p.x.length ≤ 1000000000 ∧ p.es.length ≤ 100000 ∧ ∀ e ∈ p.es, e.n.length ≤ 100000

theorem words_nat {w : World} {A : Addr} (v : Int) (hv : 0 ≤ v ∧ v < 18446744073709551616) (hc : w.cell? A = some (.int .u64 v)) : Calls Try.prog 29 #[.iface 98 (.pointer (some A))] w (New w (longB v.toNat)) := by
  obtain ⟨n, hn⟩ := Int.eq_ofNat_of_zero_le hv.1
  rw [hn] at hc ⊢
  exact words_long n (by omega) hc
theorem words_res {w : World} {R : Nat} {p : PR} {ev : Value} (hb : Blk w R 42 (prC p ev)) (he : Ents w ev p.es) (hp : RB p) (c : UInt8) (hc : isR c ∨ c = 0) : Calls Try.prog 29 #[resV R c] w (New w (rF p c)) := by
  obtain ⟨k1, k2, k3, k4, k5, k6⟩ := hp
  rcases hc with (rfl | rfl | rfl | rfl | rfl | rfl | rfl | rfl | rfl) | rfl
  · exact words_handle p.h (hb.cell rfl) (hb.cell rfl) (hb.cell rfl)
  · exact words_attr p.a k1 (hb.cell rfl) (hb.cell rfl) (hb.cell rfl) (hb.cell rfl) (hb.cell rfl) (hb.cell rfl) (hb.cell rfl) (hb.cell rfl)
  · exact words_text p.x 2048 k4 (hb.cell rfl)
  · exact words_int p.n (hb.cell rfl)
  · exact words_int p.f (hb.cell rfl)
  · exact words_nat p.u k2 (hb.cell rfl)
  · exact words_bool p.d (hb.cell rfl)
  · exact words_entries ev p.es (hb.cell rfl) he k5 k6
  · exact words_nat p.v k3 (hb.cell rfl)
  · exact words_errno p.e (hb.cell rfl)
theorem rF_len (p : PR) (hp : RB p) (c : UInt8) : (rF p c).length ≤ 10100000000 := by
  obtain ⟨k1, k2, k3, k4, k5, k6⟩ := hp
  have h1 := hEnc_len p.h
  have h2 := attrB_len p.a
  have h3 := textB_len p.x
  have p3 := pad_le p.x.length
  have h4 := ensB_len p.es k6
  unfold rF ensB
  repeat' split
  all_goals first | omega | (rw [longB_len]; omega) | (rw [word4_len]; omega) | (rw [flagB_len]; omega) | (rw [List.length_append, word4_len]; omega)
theorem rWs_len (q : List UInt8) (p : PR) (hp : RB p) : (rWs q p).length ≤ 10100000000 * q.length := by
  induction q with
  | nil => simp [rWs]
  | cons c l ih =>
    have := rF_len p hp c
    unfold rWs at *
    rw [List.flatMap_cons, List.length_append, List.length_cons]
    omega

/-- A field read. -/
def aRdC (s : St) : At := ⟨(rCount 3 s).1, (rInt (aSt s 1)).1, (rInt (aSt s 2)).1, (rInt (aSt s 3)).1, (rInt (aSt s 4)).1, (rInt (aSt s 5)).1, (rInt (aSt s 6)).1, (rInt (aSt s 7)).1⟩
def rRd1 (c : UInt8) (z : PR × Bool × St) : PR × Bool × St :=
  if c = 0 then ({ z.1 with e := (rCount 63 z.2.2).1 }, z.2.1, (rCount 63 z.2.2).2)
  else if c = 72 then ({ z.1 with h := (hRd z.2.2).1.1 }, z.2.1 && (hRd z.2.2).1.2, (hRd z.2.2).2)
  else if c = 65 then ({ z.1 with a := aRdC z.2.2 }, z.2.1 && decide (1 ≤ (rCount 3 z.2.2).1), aSt z.2.2 8)
  else if c = 116 then ({ z.1 with x := (rText 2048 z.2.2).1 }, z.2.1, (rText 2048 z.2.2).2)
  else if c = 78 then ({ z.1 with n := (rInt z.2.2).1 }, z.2.1, (rInt z.2.2).2)
  else if c = 102 then ({ z.1 with f := (rInt z.2.2).1 }, z.2.1, (rInt z.2.2).2)
  else if c = 117 then ({ z.1 with u := (rLong z.2.2).1 }, z.2.1, (rLong z.2.2).2)
  else if c = 101 then ({ z.1 with d := (rFlag z.2.2).1 }, z.2.1, (rFlag z.2.2).2)
  else if c = 69 then ({ z.1 with es := eList (rCount 64 z.2.2).2 (rCount 64 z.2.2).1.toNat }, z.2.1, eSt (rCount 64 z.2.2).2 (rCount 64 z.2.2).1.toNat)
  else if c = 118 then ({ z.1 with v := (rLong z.2.2).1 }, z.2.1, (rLong z.2.2).2)
  else z
def RR (z : PR × Bool × St) (c : UInt8) : PR × Bool × St := rRd1 c z

theorem Ents.keep {S : Nat → Prop} {w w' : World} {v : Value} {es : List En} (h : Ents w v es) (hk : KeepB S w w') (hs : ∀ k, v.ownBlock = some k → ¬ S k) : Ents w' v es := by
  rcases h with h | ⟨b, o, c, h1, h2, h3, h4⟩ | h
  · exact .inl h
  · exact .inr (.inl ⟨b, o, c, h1, h2, h3, fun i hi => hk.cell (h4 i hi) (hs b (by rw [h1]; rfl))⟩)
  · exact .inr (.inr h)

section
variable {w w1 : World} {R r i : Nat} {g : Option Nat} {t : TypeId} {xs : Array Value} {s s' : St}
set_option maxRecDepth 20000 in
set_option maxHeartbeats 2000000 in
theorem read_handle2 {x y z : Value} (hb : Blk w R t xs) (hx : xs[i]? = some x) (hy : xs[i + 1]? = some y) (hz : xs[i + 2]? = some z) (hr : RdrS w r g s) (hR : R ≠ r) (hg : g ≠ some R) (hl : (s.getD []).length ≤ 100000000) :
    Calls Try.prog 32 #[.pointer (some ⟨r, 0, none⟩), .iface 105 (.pointer (some ⟨R, i, none⟩))] w (RF w R r g t (((xs.setIfInBounds i (.int .i64 (hRd s).1.1.s)).setIfInBounds (i + 1) (.int .i64 (hRd s).1.1.i)).setIfInBounds (i + 2) (.int .i64 (hRd s).1.1.g)) (hRd s).2 (hRd s).1.2) := by
  have HC := Lib.hid (fixed_s r g s 24 w hr)
  have HLL := Lib.hid (rFixed_le 24 s)
  have HL := Lib.hid hl
  have HB := Lib.hid hb
  have HX := Lib.hid hx
  have HY := Lib.hid hy
  have HZ := Lib.hid hz
  have HR := Lib.hid hR
  have HG := Lib.hid hg
  clear hb hx hr hR hg hy hz hl
  unfold hRd
  generalize rFixed 24 s = q at *
  obtain ⟨tx, s'⟩ := q
  dsimp only at *
  have HD := Lib.hid (fun w => Dec_any tx w (by have := HLL.out.1; have := HL.out; unfold maxLen; omega))
  generalize hDec fnv tx = q at *
  obtain ⟨⟨d1, d2, d3⟩, f⟩ := q
  unfold HT hnV at HD
  dsimp only at *
  have t0 := fun (w : World) (v : Value) => ta_6_0 w v
  have t1 := fun (w : World) (v : Value) => ta_6_1 w v
  have t2 := fun (w : World) (v : Value) => ta_6_2 w v
  have t3 := fun (w : World) (v : Value) => ta_6_3 w v
  have t4 := fun (w : World) (v : Value) => ta_6_4 w v
  have t5 := fun (w : World) (v : Value) => ta_6_5 w v
  have t6 := fun (w : World) (v : Value) => ta_6_6 w v
  go_enter Try.func32, Try.ntmps32
  go_wp2_with fail
  refine HC.out.mono ?_; rintro e w1 ⟨rfl, h1, h2⟩
  have HB1 := Lib.hid (HB.out.kept h2 (by have := HR.out; simpa using this))
  have H1 := Lib.hid h1
  have H2 := Lib.hid (KeepB.of (S := fun k => k = R ∨ k = r) h2 (fun k e => by cases e; exact .inr rfl))
  clear h1 h2
  go_wp2_with fail
  refine (HD.out _).mono ?_; rintro e w2 ⟨rfl, h3⟩
  have HB2 := Lib.hid (HB1.out.new h3)
  have H12 := Lib.hid (H1.out.new h3)
  have H22 := Lib.hid (H2.out.trans (KeepB.new h3))
  clear h3
  have c0 := HB2.out.cell HX.out
  have c1 := HB2.out.cell HY.out
  have c2 := HB2.out.cell HZ.out
  have f0 := HB2.out.frozen i
  have f1 := HB2.out.frozen (i + 1)
  have f2 := HB2.out.frozen (i + 2)
  go_wp2_with fail
  go_ret
  have gs := Lib.grownBy_setB (Lib.grownBy_setB (Lib.grownBy_setB (World.grownBy.refl w2 (some R)) i (.int .i64 d1)) (i + 1) (.int .i64 d2)) (i + 2) (.int .i64 d3)
  exact ⟨rfl, ((HB2.out.set i _).set (i + 1) _).set (i + 2) _, H12.out.kept gs (by have := HR.out; simpa using this) (.inr HG.out), H22.out.trans (KeepB.of gs (fun k e => by cases e; exact .inl rfl))⟩
end

/-- A field read: what is then. -/
def RG (W0 : Nat) (w : World) (R r : Nat) (g : Option Nat) (y : PR × Bool × St) (e : Ending) (w' : World) : Prop :=
  ∃ ev, e = .returned (.bool y.2.1) ∧ Blk w' R 42 (prC y.1 ev) ∧ Ents w' ev y.1.es ∧ RdrS w' r g y.2.2 ∧ KeepB (fun k => k = R ∨ k = r) w w' ∧ ∀ k, ev.ownBlock = some k → W0 ≤ k

theorem aCells_eq (p : PR) (ev : Value) (s : St) : aCells (prC p ev) 4 s 8 = prC { p with a := aRdC s } ev := by
  simp only [aCells, aVal, prC, aRdC, Nat.reduceAdd, List.setIfInBounds_toArray, List.set_cons_succ, List.set_cons_zero]

set_option maxRecDepth 20000 in
set_option maxHeartbeats 1000000 in
theorem read_res {w : World} {W0 R r : Nat} {g : Option Nat} {p : PR} {ev : Value} {s : St} {c : UInt8} (hc : isR c ∨ c = 0) (hb : Blk w R 42 (prC p ev)) (he : Ents w ev p.es) (hev : ∀ k, ev.ownBlock = some k → W0 ≤ k) (hW : W0 ≤ w.heap.size) (hRl : R < W0) (hrl : r < W0) (hr : RdrS w r g s) (hR : R ≠ r) (hg : g ≠ some R) (hgl : ∀ k, g = some k → k < W0) (hl : (s.getD []).length ≤ 100000000) :
    Calls Try.prog 32 #[.pointer (some ⟨r, 0, none⟩), resV R c] w (RG W0 w R r g (RR (p, true, s) c)) := by
  have fin : ∀ (p' : PR) (s' : St) (ok : Bool), p'.es = p.es → ∀ e w', RF w R r g 42 (prC p' ev) s' ok e w' → RG W0 w R r g (p', ok, s') e w' := fun p' s' ok hes e w' h =>
    ⟨ev, h.1, h.2.1, by dsimp only; rw [hes]; exact he.keep h.2.2.2 (fun k hk e => by have := hev k hk; omega), h.2.2.1, h.2.2.2, hev⟩
  rcases hc with (rfl | rfl | rfl | rfl | rfl | rfl | rfl | rfl | rfl) | rfl
  · exact (read_handle2 (i := 1) hb rfl rfl rfl hr hR hg hl).mono (fin { p with h := (hRd s).1.1 } _ _ rfl)
  · have h := read_attr (o := 4) hb (by show 4 + 8 ≤ 19; omega) hr hR hg
    rw [aCells_eq] at h
    exact h.mono (fin { p with a := aRdC s } _ _ rfl)
  · exact (read_text (i := 12) 2048 hb rfl hr hR hg hr.lt).mono (fin { p with x := (rText 2048 s).1 } _ _ rfl)
  · exact (read_int (i := 13) hb rfl hr hR hg).mono (fin { p with n := (rInt s).1 } _ _ rfl)
  · exact (read_int (i := 14) hb rfl hr hR hg).mono (fin { p with f := (rInt s).1 } _ _ rfl)
  · exact (read_long (i := 15) hb rfl hr hR hg).mono (fin { p with u := (rLong s).1 } _ _ rfl)
  · exact (read_bool (i := 16) hb rfl hr hR hg).mono (fin { p with d := (rFlag s).1 } _ _ rfl)
  · refine (read_entries (i := 17) hb rfl hr hR hg (fun k e => by have := hgl k e; omega)).mono ?_
    rintro e w' ⟨h1, M, h2, h3, h4, h5, h6⟩
    have hn := rCount_range 64 (by omega) s
    exact ⟨.slice (some ⟨M, 0, none⟩) (rCount 64 s).1.toNat (rCount 64 s).1.toNat, h1, h2, mC_ents h3 (by omega), h5, h6, fun k hk => by
      have e : k = M := by cases hk; rfl
      rw [e]; exact Nat.le_trans hW h4⟩
  · exact (read_long (i := 18) hb rfl hr hR hg).mono (fin { p with v := (rLong s).1 } _ _ rfl)
  · exact (read_errno (i := 0) hb rfl hr hR hg).mono (fin { p with e := (rCount 63 s).1 } _ _ rfl)

theorem RR_ok {c : UInt8} (hc : isR c ∨ c = 0) (p : PR) (ok : Bool) (s : St) : RR (p, ok, s) c = ((RR (p, true, s) c).1, ok && (RR (p, true, s) c).2.1, (RR (p, true, s) c).2.2) := by
  rcases hc with (rfl | rfl | rfl | rfl | rfl | rfl | rfl | rfl | rfl) | rfl
  · rfl
  · rfl
  all_goals
    show (_, ok, _) = (_, ok && true, _)
    rw [Bool.and_true]; rfl

theorem rCount_le (m : Int) (s : St) : (((rCount m s).2).getD []).length ≤ (s.getD []).length := rCount_len m s
theorem aSt_le (s : St) : ∀ j, ((aSt s j).getD []).length ≤ (s.getD []).length
  | 0 => Nat.le_refl _
  | 1 => rCount_le 3 s
  | j + 2 => Nat.le_trans (rInt_len (aSt s (j + 1))) (aSt_le s (j + 1))
theorem rEn_le (s : St) : ((rEn s).2.getD []).length ≤ (s.getD []).length := Nat.le_trans (rInt_len _) (Nat.le_trans (rInt_len _) (rText_len 255 s))
theorem eSt_le (s : St) : ∀ j, ((eSt s j).getD []).length ≤ (s.getD []).length
  | 0 => Nat.le_refl _
  | j + 1 => Nat.le_trans (rEn_le (eSt s j)) (eSt_le s j)
theorem RR_le {c : UInt8} (hc : isR c ∨ c = 0) (p : PR) (ok : Bool) (s : St) : ((RR (p, ok, s) c).2.2.getD []).length ≤ (s.getD []).length := by
  rcases hc with (rfl | rfl | rfl | rfl | rfl | rfl | rfl | rfl | rfl) | rfl
  · exact hRd_len s
  · exact aSt_le s 8
  · exact rText_len _ s
  · exact rInt_len s
  · exact rInt_len s
  · exact rLong_len s
  · exact rCount_le 1 s
  · exact Nat.le_trans (eSt_le _ _) (rCount_le 64 s)
  · exact rLong_len s
  · exact rCount_le 63 s

/-- The blocks of Hear. -/
def SepH (W : World) (R B C r : Nat) (g : Option Nat) : Prop := Sep W R B C r g ∧ ∀ k, g = some k → k < W.heap.size
def zRR (q tx : List UInt8) : PR × Bool × St := q.foldl RR (noPR, true, some tx)
def IH (W : World) (R B C r : Nat) (g : Option Nat) (tx : List UInt8) (L : Nat) (q : List UInt8) (w : World) : Prop :=
  ∃ ev, Blk w R 42 (prC (zRR q tx).1 ev) ∧ Ents w ev (zRR q tx).1.es ∧ (∀ k, ev.ownBlock = some k → W.heap.size ≤ k) ∧ Blk w B 66 #[.pointer (some ⟨r, 0, none⟩)] ∧ Blk w C 4 #[.bool (zRR q tx).2.1] ∧ RdrS w r g (zRR q tx).2.2 ∧ ((zRR q tx).2.2.getD []).length ≤ 100000000 ∧ KeepB (fun k => k = R ∨ k = r ∨ k = C) W w ∧ W.heap.size ≤ L
theorem IH.new {W w w' : World} {R B C r : Nat} {g : Option Nat} {tx : List UInt8} {L : Nat} {q : List UInt8} (h : IH W R B C r g tx L q w) (hg : w.grownBy w' none) : IH W R B C r g tx L q w' := by
  obtain ⟨ev, h1, h1a, h1b, h2, h3, h4, h5, h6, h7⟩ := h
  exact ⟨ev, h1.new hg, h1a.new hg, h1b, h2.new hg, h3.new hg, h4.new hg, h5, h6.trans (KeepB.new hg), h7⟩

set_option maxRecDepth 20000 in
set_option maxHeartbeats 2000000 in
theorem step_Hear {W w : World} {R B C r : Nat} {g : Option Nat} {tx : List UInt8} {L : Nat} {q : List UInt8} {c : UInt8} (hD : SepH W R B C r g) (hc : isR c ∨ c = 0) (h : IH W R B C r g tx L q w) (hL : L < w.heap.size) :
    Calls Try.prog 40 #[resV R c, .pointer (some ⟨B, 0, none⟩), .pointer (some ⟨C, 0, none⟩)] w fun e w' => e = .returned (.tuple #[]) ∧ IH W R B C r g tx L (q ++ [c]) w' ∧ w'.heap[L]? = w.heap[L]? := by
  obtain ⟨ev, h1, h1a, h1b, h2, h3, h4, h5, h6, h7⟩ := h
  have hz : zRR (q ++ [c]) tx = RR (zRR q tx) c := by unfold zRR; rw [List.foldl_append]; rfl
  unfold IH
  rw [hz]
  clear hz
  generalize zRR q tx = z at *
  obtain ⟨p, ok, s⟩ := z
  dsimp only at *
  rw [RR_ok hc]
  have hle := Nat.le_trans (RR_le hc p true s) h5
  obtain ⟨⟨⟨d1, d2, d3, d4, d5, d6, d7, d8⟩, l1, l2, l3, l4⟩, d9⟩ := hD
  have hsz := h6.size
  have HRA := Lib.hid (read_res hc h1 h1a h1b hsz l1 l4 h4 d1 d2 d9 (by omega))
  generalize RR (p, true, s) c = y at *
  obtain ⟨p', okc, s'⟩ := y
  dsimp only at *
  have HD := Lib.hid (show (R ≠ r ∧ g ≠ some R ∧ B ≠ R ∧ B ≠ r ∧ B ≠ C ∧ C ≠ R ∧ C ≠ r ∧ g ≠ some C) from ⟨d1, d2, d3, d4, d5, d6, d7, d8⟩)
  have HLE := Lib.hid hle
  have H3 := Lib.hid h3
  have H2 := Lib.hid h2
  have H6 := Lib.hid h6
  have HLW := Lib.hid hL
  have HLT : Hid (R < W.heap.size ∧ r < W.heap.size ∧ C < W.heap.size ∧ W.heap.size ≤ L) := Lib.hid ⟨l1, l4, l3, h7⟩
  have c0 := h2.cell (i := 0) (x := .pointer (some ⟨r, 0, none⟩)) rfl
  clear h1 h1a h1b h2 h3 h4 h5 h6 h7 d1 d2 d3 d4 d5 d6 d7 d8 d9 l1 l2 l3 l4 hle hsz hc hL
  go_enter Try.func40, Try.ntmps40
  go_wp2_with fail
  refine HRA.out.mono ?_; rintro e w1 ⟨ev', rfl, b1, e1, r1, k1, o1⟩
  have HB := Lib.hid b1
  have HE := Lib.hid e1
  have HO := Lib.hid o1
  have HR := Lib.hid r1
  have HK := Lib.hid k1
  have b3 := k1.blk H3.out (fun e => by have := HD.out; rcases e with e | e <;> simp_all)
  have HB3 := Lib.hid b3
  have HB2 := Lib.hid (k1.blk H2.out (fun e => by have := HD.out; rcases e with e | e <;> simp_all))
  have c1 := b3.cell (i := 0) (x := .bool ok) rfl
  have f1 := b3.frozen 0
  clear b1 r1 k1 b3 c0 e1 o1
  dsimp only
  cases okc
  all_goals
    go_wp2_with fail
    go_end0
    have gs : ∀ u, w1.grownBy (w1.setCell ⟨C, 0, none⟩ (.bool u)) (some C) := fun u => Lib.grownBy_setB (World.grownBy.refl _ _) _ _
    have hd := HD.out
    have lt := HLT.out
    refine ⟨rfl, ⟨ev', HB.out.kept (gs _) (by simpa using (Ne.symm hd.2.2.2.2.2.1)), HE.out.keep (KeepB.of (S := fun k => k = C) (gs _) (fun k e => by cases e; rfl)) (fun k hk e => by have := HO.out k hk; omega), HO.out, HB2.out.kept (gs _) (by simpa using hd.2.2.2.2.1), ?_, HR.out.kept (gs _) (by simpa using hd.2.2.2.2.2.2.1) (.inr hd.2.2.2.2.2.2.2), HLE.out, (H6.out.trans (HK.out.more (fun k e _ => by rcases e with e | e <;> simp [e]))).trans (KeepB.of (gs _) (fun k e => by cases e; simp)), HLT.out.2.2.2⟩, ?_⟩
    · first | exact HB3.out.set 0 (.bool false) | exact HB3.out.set 0 (.bool ok) | (rw [Bool.and_true]; exact HB3.out.set 0 (.bool ok)) | (rw [Bool.and_false]; exact HB3.out.set 0 (.bool false))
    · have lw := HLW.out
      have sz := HK.out.size
      rw [(gs _).block L (by omega) (by simp; omega)]
      exact HK.out.block L lw (by omega)

end Go.Proofs.Ytpklgcinijlmmaa
namespace Go.Proofs.Ytpklgcinijlmmaa
open Go.RowKit

def rJudge (z : PR × Bool × St) : PR × Int := if (z.2.1 && rDone z.2.2) = true then (z.1, 0) else (noPR, 4)
theorem rJudge_no {z : PR × Bool × St} (h : (z.2.1 && rDone z.2.2) = false) : rJudge z = (noPR, 4) := by unfold rJudge; rw [h]; rfl
theorem rJudge_yes {z : PR × Bool × St} (h : (z.2.1 && rDone z.2.2) = true) : rJudge z = (z.1, 0) := by unfold rJudge; rw [h]; rfl
/-- The letters that are read, E ahead of them. -/
def qOf (k : Int) (e : Int) : List UInt8 := if e = 0 then 0 :: rowAt tellsT k else [0]
def cHear (k : Int) (tx : List UInt8) : PR × Int := if 0 ≤ k ∧ k < 19 then rJudge (zRR (qOf k (zRR [0] tx).1.e) tx) else (noPR, 62)
/-- A result and an error, told. -/
def RT (w : World) (y : PR × Int) (e : Ending) (w' : World) : Prop := ∃ ev, e = .returned (.tuple #[.agg (prC y.1 ev), .int .i64 y.2]) ∧ Ents w' ev y.1.es ∧ w.grownBy w' none ∧ ∀ k, ev.ownBlock = some k → w.heap.size ≤ k

/-- Two results, the first of which lies in memory as a row of cells. -/
theorem results_cell_tmp {P : Program} {fn : Func} {p q : Tmp} {ty : TypeId} (h : fn.results = #[.cell p ty, .tmp q]) (tmps : Array Value) (w : World) (g : Nat) (t : TypeId) (cs : Array Value) (fr : Nat × Nat) (d : TypeDesc)
    (hp : tmps.getD p undef = .pointer (some ⟨g, 0, none⟩)) (hg : w.heap[g]? = some (.cells cs t fr))
    (hu : P.underlying ty = some d) (hd : (match d with | .struct _ | .array _ _ => true | _ => false) = true) (hi : (P.info? ty).map (·.size) = some cs.size) :
    (results fn tmps).run P w = .ok (.tuple #[.agg cs, tmps.getD q undef]) w := by
  have hp' : tmps[p]?.getD undef = .pointer (some ⟨g, 0, none⟩) := by simpa using hp
  simp [results, h, hp', asAddr, run_loadVar_row w g t ty cs fr d hg hu hd hi]

set_option maxRecDepth 20000 in
set_option maxHeartbeats 8000000 in
theorem Hear_any (k : Int) (tx : List UInt8) (w : World) (ht : tx.length ≤ 100000000) : Calls Try.prog 17 #[.int .i64 k, .string ⟨tx.toArray⟩] w (RT w (cHear k tx)) := by
  have HE : Hid (cHear k tx = if 0 ≤ k ∧ k < 19 then rJudge (zRR (qOf k (zRR [0] tx).1.e) tx) else (noPR, 62)) := Lib.hid rfl
  have hcv : ∀ w : World, (convert 9 55 (.string ⟨tx.toArray⟩)).run Try.prog w = .ok (.slice (some ⟨w.heap.size, 0, none⟩) (⟨tx.toArray⟩ : ByteArray).size (grownCap w (⟨tx.toArray⟩ : ByteArray).size 0 5)) (Lib.bytesWorld w 5 ⟨tx.toArray⟩) := fun w => Lib.run_convert_string_bytes w _ _ _ _ und9 und22 und5
  have HT0 := Lib.hid ht
  obtain ⟨Z, hZ⟩ : ∃ Z, cHear k tx = Z := ⟨_, rfl⟩
  rw [hZ] at HE ⊢
  clear ht hZ
  go_enter Try.func17, Try.ntmps17
  go_upto_region 1 with fail
  have hR := Blk.made w 42 #[.int .i64 0, .int .i64 0, .int .i64 0, .int .i64 0, .int .u8 0, .int .i64 0, .int .i64 0, .int .i64 0, .int .i64 0, .int .i64 0, .int .i64 0, .int .i64 0, .string ⟨#[]⟩, .int .i64 0, .int .i64 0, .int .u64 0, .bool false, .slice none 0 0, .int .u64 0]
  have ga := World.grownBy_alloc w (.cells #[.int .i64 0, .int .i64 0, .int .i64 0, .int .i64 0, .int .u8 0, .int .i64 0, .int .i64 0, .int .i64 0, .int .i64 0, .int .i64 0, .int .i64 0, .int .i64 0, .string ⟨#[]⟩, .int .i64 0, .int .i64 0, .int .u64 0, .bool false, .slice none 0 0, .int .u64 0] 42) none
  generalize w.alloc (.cells #[.int .i64 0, .int .i64 0, .int .i64 0, .int .i64 0, .int .u8 0, .int .i64 0, .int .i64 0, .int .i64 0, .int .i64 0, .int .i64 0, .int .i64 0, .int .i64 0, .string ⟨#[]⟩, .int .i64 0, .int .i64 0, .int .u64 0, .bool false, .slice none 0 0, .int .u64 0] 42) = w1 at *
  obtain ⟨Q, hRR⟩ : ∃ R, R = w.heap.size := ⟨_, rfl⟩
  rw [← hRR] at hR ⊢
  have HQW : Hid (w.heap.size ≤ Q) := Lib.hid (by omega)
  have HQ : Hid (Blk w1 Q 42 (prC noPR (.slice none 0 0))) := Lib.hid hR
  have HG := Lib.hid ga
  clear hRR hR ga
  go_upto_region 2 with fail
  have hR := Blk.made w1 42 #[.int .i64 0, .int .i64 0, .int .i64 0, .int .i64 0, .int .u8 0, .int .i64 0, .int .i64 0, .int .i64 0, .int .i64 0, .int .i64 0, .int .i64 0, .int .i64 0, .string ⟨#[]⟩, .int .i64 0, .int .i64 0, .int .u64 0, .bool false, .slice none 0 0, .int .u64 0]
  have ga := World.grownBy_alloc w1 (.cells #[.int .i64 0, .int .i64 0, .int .i64 0, .int .i64 0, .int .u8 0, .int .i64 0, .int .i64 0, .int .i64 0, .int .i64 0, .int .i64 0, .int .i64 0, .int .i64 0, .string ⟨#[]⟩, .int .i64 0, .int .i64 0, .int .u64 0, .bool false, .slice none 0 0, .int .u64 0] 42) none
  have hQR := HQ.out.lt
  replace HQ := Lib.hid (HQ.out.new ga)
  replace HG := Lib.hid (World.grownBy.trans HG.out ga)
  generalize w1.alloc (.cells #[.int .i64 0, .int .i64 0, .int .i64 0, .int .i64 0, .int .u8 0, .int .i64 0, .int .i64 0, .int .i64 0, .int .i64 0, .int .i64 0, .int .i64 0, .int .i64 0, .string ⟨#[]⟩, .int .i64 0, .int .i64 0, .int .u64 0, .bool false, .slice none 0 0, .int .u64 0] 42) = w2 at *
  generalize w1.heap.size = R at *
  have HQR := Lib.hid hQR
  have HR := Lib.hid hR
  clear hR ga hQR
  go_wp2_with fail
  clear hcv
  have g2 := bytesWorld_grown w2 5 ⟨tx.toArray⟩
  have hT := bytesWorld_bts w2 ⟨tx.toArray⟩ (by have := HT0.out; show tx.length ≤ _; omega)
  generalize Lib.bytesWorld w2 5 ⟨tx.toArray⟩ = w3 at *
  replace HR := Lib.hid (HR.out.new g2)
  replace HQ := Lib.hid (HQ.out.new g2)
  replace HG := Lib.hid (World.grownBy.trans HG.out g2)
  clear g2
  refine (newReader_any _ tx w3 hT (by have := HT0.out; omega)).mono ?_; rintro e w4 ⟨r, g, rfl, y1, y2, y3, y4, y5⟩
  have hrR := HR.out.lt
  replace HR := Lib.hid (HR.out.new y2)
  replace HQ := Lib.hid (HQ.out.new y2)
  replace HG := Lib.hid (World.grownBy.trans HG.out y2)
  have HRD := Lib.hid y1
  have HSEP : Hid (R ≠ r ∧ g ≠ some R ∧ Q < r ∧ r < w4.heap.size ∧ R < w4.heap.size ∧ ∀ k, g = some k → k < w4.heap.size) := Lib.hid ⟨by omega, fun e => by have := y5 _ e; omega, by have := HQ.out.lt; have := HQR.out; omega, y4, HR.out.lt, fun k e => (y5 k e).2⟩
  clear y1 y2 y3 y4 y5 hT hrR
  go_upto_region 3 with fail
  have b1 := Blk.made w4 66 #[.pointer (some ⟨r, 0, none⟩)]
  have g1 := World.grownBy_alloc w4 (.cells #[.pointer (some ⟨r, 0, none⟩)] 66) none
  have b2 := Blk.made (w4.alloc (.cells #[.pointer (some ⟨r, 0, none⟩)] 66)) 4 #[.bool true]
  have g2 := World.grownBy_alloc (w4.alloc (.cells #[.pointer (some ⟨r, 0, none⟩)] 66)) (.cells #[.bool true] 4) none
  have hs : (w4.alloc (.cells #[.pointer (some ⟨r, 0, none⟩)] 66)).heap.size = w4.heap.size + 1 := by simp
  rw [hs] at b2
  have b1' := b1.new g2
  have g12 := World.grownBy.trans g1 g2
  clear hs b1 g1 g2
  generalize (w4.alloc (.cells #[.pointer (some ⟨r, 0, none⟩)] 66)).alloc (.cells #[.bool true] 4) = w5 at *
  obtain ⟨B, hBB⟩ : ∃ B, w4.heap.size = B := ⟨_, rfl⟩
  rw [hBB] at b1' b2 ⊢
  have HD : Hid (SepH w5 R B (B + 1) r g) := Lib.hid (by
    have h := HSEP.out
    have h1 := b1'.lt
    have h2 := b2.lt
    have h3 := g12.size
    refine ⟨⟨⟨h.1, h.2.1, by omega, by omega, by omega, by omega, by omega, fun e => by have := h.2.2.2.2.2 _ e; omega⟩, by omega, by omega, by omega, by omega⟩, fun k e => by have := h.2.2.2.2.2 _ e; omega⟩)
  replace HQ := Lib.hid (HQ.out.new g12)
  replace HG := Lib.hid (World.grownBy.trans HG.out g12)
  have HIR : Hid (∀ L, w5.heap.size ≤ L → IH w5 R B (B + 1) r g tx L [] w5) := Lib.hid (fun L hL => ⟨.slice none 0 0, HR.out.new g12, .inl ⟨rfl, rfl⟩, (fun k e => by cases e), b1', b2, HRD.out.new g12, HT0.out, KeepB.refl _ _, hL⟩)
  have HW : Hid (w.heap.size ≤ Q ∧ Q < R ∧ Q < r ∧ Q < B) := Lib.hid ⟨HQW.out, HQR.out, HSEP.out.2.2.1, by have := HSEP.out; omega⟩
  have HW2 : Hid (Q < w5.heap.size) := Lib.hid HQ.out.lt
  have HWS : Hid (w.heap.size ≤ w5.heap.size) := Lib.hid HG.out.size
  have HAS := Lib.hid (tells_Hear k R B (B + 1) (zRR [0] tx).1.e (IH w5 R B (B + 1) r g tx) w5 HIR.out (fun L p w w' h hg => h.new hg) (fun L p c w hc _ h hl => step_Hear HD.out hc h hl) (fun L w h => h.choose_spec.1.cell rfl))
  obtain ⟨is, his⟩ : ∃ is, decide (0 ≤ k ∧ k < 19) = is := ⟨_, rfl⟩
  have HZ : Hid (Z = if is = true then rJudge (zRR (qOf k (zRR [0] tx).1.e) tx) else (noPR, 62)) := Lib.hid (by
    rw [HE.out, ← his]
    by_cases hk : 0 ≤ k ∧ k < 19
    · rw [if_pos hk, if_pos (by simpa using hk)]
    · rw [if_neg hk, if_neg (by simpa using hk)])
  have hqf : (if (zRR [0] tx).1.e = 0 then 0 :: rowAt tellsT k else [0]) = qOf k (zRR [0] tx).1.e := rfl
  rw [his, hqf] at HAS
  generalize qOf k (zRR [0] tx).1.e = ql at *
  clear g12 b1' b2 HIR HRD HR HSEP HQR hBB his HE HT0 hqf
  go_wp2_with fail
  refine HAS.out.mono ?_; rintro e wr ⟨rfl, L, hI⟩
  unfold IH at hI
  generalize zRR ql tx = z at *
  obtain ⟨p, ok, st⟩ := z
  obtain ⟨ev, i1, i1a, i1b, i2, i3, i4, i5, i6, i7⟩ := hI
  dsimp only at i1a
  obtain ⟨ea, ec, rfl, _⟩ := i1a.form
  dsimp only at i1 i3 i4 i5
  replace HQ := Lib.hid (i6.blk HQ.out (fun e => by have := HW.out; omega))
  replace HG := Lib.hid (KeepB.grown i6 (fun k e => by have := HW.out; omega) HG.out)
  have HR := Lib.hid i1
  have HEN0 := Lib.hid i1a
  have HEO0 := Lib.hid i1b
  have HB := Lib.hid i2
  have HC := Lib.hid i3
  have HDN := Lib.hid (done_s r g st wr i4)
  have HNE : Hid (Ents wr (.slice none 0 0) []) := Lib.hid (.inl ⟨rfl, rfl⟩)
  have HNO : Hid (∀ k, (Value.slice none 0 0).ownBlock = some k → w5.heap.size ≤ k) := Lib.hid (fun k e => by cases e)
  clear i1 i1a i1b i2 i3 i4 i5 i6 i7 HAS
  obtain ⟨dn, hdd⟩ : ∃ dn, rDone st = dn := ⟨_, rfl⟩
  have HDE := Lib.hid hdd
  rw [hdd] at HDN
  clear hdd
  cases is
  · have HZ2 : Hid (Z = (noPR, 62)) := Lib.hid (by rw [HZ.out, if_neg (by simp)])
    as_aux_lemma =>
      have HEN := Lib.hid HNE.out
      have HEO := Lib.hid HNO.out
      go_upto_region 5 with fail
      go_wp2_with (refine wpList_store_row rfl 42 (.tmp 4) (.tmp 18) rfl Q (prC noPR (.slice none 0 0)) rfl rfl 42 (prC noPR (.slice none 0 0)) HQ.out (by kernel_rfl) (by kernel_rfl) (by kernel_rfl) ?_; (try go_simp))
      have hb := HQ.out.row (prC noPR (.slice none 0 0))
      have gr := setRow_grown wr Q (prC noPR (.slice none 0 0))
      have hg := grown_own HG.out gr (fun n hn => by cases hn; exact HW.out.1)
      have hen := HEN.out.keep (KeepB.of (S := fun k => k = Q) gr (fun k e => by cases e; rfl)) (fun k hk e => by have := HEO.out k hk; have := HW2.out; omega)
      clear gr
      generalize World.setRow _ _ _ = wE at *
      exact bodyPost_ret (results_cell_tmp Try.results17 _ _ Q 42 (prC noPR (.slice none 0 0)) (0, 0) _ rfl hb Try.underlying42 rfl (by kernel_rfl)) rfl ⟨.slice none 0 0, by rw [HZ2.out]; rfl, by rw [HZ2.out]; exact hen, hg, fun k e => by cases e⟩
  · have cC := HC.out.cell (i := 0) (x := .bool ok) rfl
    have cB := HB.out.cell (i := 0) (x := .pointer (some ⟨r, 0, none⟩)) rfl
    cases ok
    · have HZ2 : Hid (Z = (noPR, 4)) := Lib.hid (by rw [HZ.out, if_pos rfl]; exact rJudge_no (z := (p, false, st)) rfl)
      as_aux_lemma =>
        have HEN := Lib.hid HNE.out
        have HEO := Lib.hid HNO.out
        go_upto_region 7 with fail
        go_wp2_with (refine wpList_store_row rfl 42 (.tmp 4) (.tmp 26) rfl Q (prC noPR (.slice none 0 0)) rfl rfl 42 (prC noPR (.slice none 0 0)) HQ.out (by kernel_rfl) (by kernel_rfl) (by kernel_rfl) ?_; (try go_simp))
        have hb := HQ.out.row (prC noPR (.slice none 0 0))
        have gr := setRow_grown wr Q (prC noPR (.slice none 0 0))
        have hg := grown_own HG.out gr (fun n hn => by cases hn; exact HW.out.1)
        have hen := HEN.out.keep (KeepB.of (S := fun k => k = Q) gr (fun k e => by cases e; rfl)) (fun k hk e => by have := HEO.out k hk; have := HW2.out; omega)
        clear gr
        generalize World.setRow _ _ _ = wE at *
        exact bodyPost_ret (results_cell_tmp Try.results17 _ _ Q 42 (prC noPR (.slice none 0 0)) (0, 0) _ rfl hb Try.underlying42 rfl (by kernel_rfl)) rfl ⟨.slice none 0 0, by rw [HZ2.out]; rfl, by rw [HZ2.out]; exact hen, hg, fun k e => by cases e⟩
    · cases hdn : dn
      · have HZ2 : Hid (Z = (noPR, 4)) := Lib.hid (by rw [HZ.out, if_pos rfl]; exact rJudge_no (z := (p, true, st)) (by show (true && rDone st) = false; rw [HDE.out, hdn]; rfl))
        subst hdn
        as_aux_lemma =>
          go_wp2_with fail
          refine HDN.out.mono ?_; rintro e0 w9 ⟨rfl, rfl⟩
          have HEN := Lib.hid HNE.out
          have HEO := Lib.hid HNO.out
          go_upto_region 7 with fail
          go_wp2_with (refine wpList_store_row rfl 42 (.tmp 4) (.tmp 26) rfl Q (prC noPR (.slice none 0 0)) rfl rfl 42 (prC noPR (.slice none 0 0)) HQ.out (by kernel_rfl) (by kernel_rfl) (by kernel_rfl) ?_; (try go_simp))
          have hb := HQ.out.row (prC noPR (.slice none 0 0))
          have gr := setRow_grown wr Q (prC noPR (.slice none 0 0))
          have hg := grown_own HG.out gr (fun n hn => by cases hn; exact HW.out.1)
          have hen := HEN.out.keep (KeepB.of (S := fun k => k = Q) gr (fun k e => by cases e; rfl)) (fun k hk e => by have := HEO.out k hk; have := HW2.out; omega)
          clear gr
          generalize World.setRow _ _ _ = wE at *
          exact bodyPost_ret (results_cell_tmp Try.results17 _ _ Q 42 (prC noPR (.slice none 0 0)) (0, 0) _ rfl hb Try.underlying42 rfl (by kernel_rfl)) rfl ⟨.slice none 0 0, by rw [HZ2.out]; rfl, by rw [HZ2.out]; exact hen, hg, fun k e => by cases e⟩
      · have HZ2 : Hid (Z = (p, 0)) := Lib.hid (by rw [HZ.out, if_pos rfl]; exact rJudge_yes (z := (p, true, st)) (by show (true && rDone st) = true; rw [HDE.out, hdn]; rfl))
        subst hdn
        as_aux_lemma =>
          go_wp2_with fail
          refine HDN.out.mono ?_; rintro e0 w9 ⟨rfl, rfl⟩
          have HEN := Lib.hid HEN0.out
          have HEO := Lib.hid HEO0.out
          go_upto_region 8 with fail
          go_wp2_with (first | (refine wpList_load_row rfl 42 (.tmp 6) rfl R rfl 42 (prC p (.slice ea p.es.length ec)) (0, 0) _ HR.out Try.underlying42 rfl (by kernel_rfl) ?_; (try go_simp)) | (refine wpList_store_row rfl 42 (.tmp 4) (.tmp 27) rfl Q (prC p (.slice ea p.es.length ec)) rfl rfl 42 (prC noPR (.slice none 0 0)) HQ.out (by kernel_rfl) (by kernel_rfl) (by kernel_rfl) ?_; (try go_simp)))
          have hb := HQ.out.row (prC p (.slice ea p.es.length ec))
          have gr := setRow_grown wr Q (prC p (.slice ea p.es.length ec))
          have hg := grown_own HG.out gr (fun n hn => by cases hn; exact HW.out.1)
          have hen := HEN.out.keep (KeepB.of (S := fun k => k = Q) gr (fun k e => by cases e; rfl)) (fun k hk e => by have := HEO.out k hk; have := HW2.out; omega)
          clear gr
          generalize World.setRow _ _ _ = wE at *
          exact bodyPost_ret (results_cell_tmp Try.results17 _ _ Q 42 (prC p (.slice ea p.es.length ec)) (0, 0) _ rfl hb Try.underlying42 rfl (by kernel_rfl)) rfl ⟨_, by rw [HZ2.out]; rfl, by rw [HZ2.out]; exact hen, hg, fun k e => by have := HEO.out k e; have := HWS.out; omega⟩
end Go.Proofs.Ytpklgcinijlmmaa
namespace Go.Proofs.Ytpklgcinijlmmaa
open Go.RowKit

/-- What holds behind these letters: the words lie in the variable at block B, in bytes of the call's own. W0: the world when Tell was called. -/
def IT (W0 W : World) (R B : Nat) (p : PR) (ev : Value) (L : Nat) (q : List UInt8) (w : World) : Prop :=
  Blk w R 42 (prC p ev) ∧ W0.grownBy w none ∧ W.heap.size ≤ w.heap.size ∧ W.heap.size ≤ L ∧ ∃ v, Blk w B 55 #[v] ∧ Own w W.heap.size v (rWs q p) ∧ v.ownBlock ≠ some L
theorem IT.new {W0 W w w' : World} {R B : Nat} {p : PR} {ev : Value} {L : Nat} {q : List UInt8} (h : IT W0 W R B p ev L q w) (hg : w.grownBy w' none) : IT W0 W R B p ev L q w' := by
  obtain ⟨h1, h2, h2a, h3, v, h4, h5, h6⟩ := h
  exact ⟨h1.new hg, World.grownBy.trans h2 hg, Nat.le_trans h2a hg.size, h3, v, h4.new hg, h5.new hg, h6⟩

set_option maxRecDepth 20000 in
set_option maxHeartbeats 2000000 in
theorem step_Tell {W0 W w : World} {R B : Nat} {p : PR} {ev : Value} {L : Nat} {q : List UInt8} {c : UInt8} (hRB : R ≠ B ∧ R < W.heap.size ∧ B < W.heap.size ∧ W0.heap.size ≤ B ∧ W0.heap.size ≤ W.heap.size) (hev : Ents W0 ev p.es) (hp : RB p) (hc : isR c ∨ c = 0) (hq : q.length < 100) (h : IT W0 W R B p ev L q w) (hL : L < w.heap.size) :
    Calls Try.prog 35 #[resV R c, .pointer (some ⟨B, 0, none⟩)] w fun e w' => e = .returned (.tuple #[]) ∧ IT W0 W R B p ev L (q ++ [c]) w' ∧ w'.heap[L]? = w.heap[L]? := by
  obtain ⟨h1, h2, h2a, h3, v, h4, h5, h6⟩ := h
  have HWO := Lib.hid (fun w' (g : w.grownBy w' none) => words_res (h1.new g) (hev.new (World.grownBy.trans h2 g)) hp c hc)
  have hl1 := rF_len p hp c
  have hl2 := rWs_len q p hp
  have HE : Hid (rWs (q ++ [c]) p = rWs q p ++ rF p c) := Lib.hid (by unfold rWs; rw [List.flatMap_append]; simp)
  have HLE : Hid ((rWs q p).length + (rF p c).length ≤ 140737488355328) := Lib.hid (by omega)
  unfold IT
  rw [HE.out]
  generalize rWs q p = bs at *
  generalize rF p c = xs at *
  obtain ⟨a1, n1, c1, rfl⟩ := h5.bts.shape
  have HA := Lib.hid h1
  have HK := Lib.hid h2
  have HSZ := Lib.hid h2a
  have HL3 := Lib.hid h3
  have HB := Lib.hid h4
  have HOW := Lib.hid h5
  have HVL := Lib.hid h6
  have HLW := Lib.hid hL
  have HVB : Hid ((Value.slice a1 n1 c1).ownBlock ≠ some B) := Lib.hid (fun e => by have := h5.lt _ e; omega)
  have HVR : Hid ((Value.slice a1 n1 c1).ownBlock ≠ some R) := Lib.hid (fun e => by have := h5.lt _ e; omega)
  have HRB := Lib.hid hRB
  clear h1 h2 h2a h3 h4 h5 h6 hl1 hl2 hp hev hc hq hL hRB
  go_enter Try.func35, Try.ntmps35
  refine wp_region_noPanic ?_
  refine wp_region_held_drew (S := fun w' => True) (by kernel_rfl) (trivial) (fun hHeld => ?_)
  refine wpAnyH_take (i := 1) (v := ?_) (by simp only [List.getElem?_toArray, List.getElem?_cons_succ, List.getElem?_cons_zero]; rfl) (by kernel_rfl) (by kernel_rfl) (by kernel_rfl) (fun _ _ _ h => h) (Or.inl ⟨by rfl, ?_⟩) (by assumption) ?_
  rotate_left 1
  · intro w hSw; (try dsimp only at hSw); go_simp; all_goals (with_reducible rfl)
  try simp only [Act.put, List.setIfInBounds_toArray, List.set_cons_zero, List.set_cons_succ]
  refine wpAnyH_ready (rs := [0, 2]) (by kernel_rfl) (by simp) ?_
  refine AllReadyH.cons (by simp only [List.getElem?_toArray, List.getElem?_cons_zero]; rfl) (fun K hK => ?_) (AllReadyH.cons (by simp only [List.getElem?_toArray, List.getElem?_cons_succ, List.getElem?_cons_zero]; rfl) (fun K hK => ?_) AllReadyH.nil)
  · have c0 := HB.out.cell (i := 0) (x := .slice a1 n1 c1) rfl
    go_simp
    clear c0
    refine hK.out _ _ (trivial) (fun hHeld => ?_)
    clear hK K
    try simp only [Act.put, List.setIfInBounds_toArray, List.set_cons_zero, List.set_cons_succ]
    refine wpAnyH_ready (rs := [2]) (by kernel_rfl) (by simp) ?_
    refine AllReadyH.cons (by simp only [List.getElem?_toArray, List.getElem?_cons_succ, List.getElem?_cons_zero]; rfl) (fun K hK => ?_) AllReadyH.nil
    go_simp
    refine (HWO.out _ (drew_new _)).mono ?_; rintro e0 w1 ⟨v5, rfl, h6, hg⟩
    obtain ⟨a5, n5, c5, rfl⟩ := h6.bts.shape
    clear hHeld
    have G1 := Lib.hid (World.grownBy.trans (drew_new w) hg)
    have BX := Lib.hid h6.bts
    clear h6 hg
    go_wp2_with fail
    refine hK.out _ _ (trivial) (fun hHeld => ?_)
    clear hK K
    try simp only [Act.put, List.setIfInBounds_toArray, List.set_cons_zero, List.set_cons_succ]
    obtain ⟨v6, w6, hrun, k1, k2, k3⟩ := run_append_bts 55 w1 W.heap.size _ _ _ _ (HOW.out.new G1.out) BX.out HLE.out (by have := HSZ.out; have := G1.out.size; omega)
    obtain ⟨a6, n6, c6, rfl⟩ := k1.bts.shape
    have HRUN := Lib.hid hrun
    have K1 := Lib.hid k1
    have K2 := Lib.hid k2
    have K3 := Lib.hid k3
    have hb6 := (HB.out.new G1.out).kept k2 (fun e => HVB.out e.symm)
    have HB6 := Lib.hid hb6
    clear hrun k1 k2 k3 hb6
    refine wpAnyH_ready (rs := [3]) (by kernel_rfl) (by simp) ?_
    refine AllReadyH.cons (by simp only [List.getElem?_toArray, List.getElem?_cons_succ, List.getElem?_cons_zero]; rfl) (fun K hK => ?_) AllReadyH.nil
    refine Lib.wp_append_run _ _ _ _ _ rfl _ _ rfl rfl _ _ HRUN.out ?_
    refine hK.out _ _ (trivial) (fun hHeld => ?_)
    clear hK K
    try simp only [Act.put, List.setIfInBounds_toArray, List.set_cons_zero, List.set_cons_succ]
    have c0 := HB6.out.cell (i := 0) (x := .slice a1 n1 c1) rfl
    have f0 := HB6.out.frozen 0
    refine wpAnyH_ready (rs := [4]) (by kernel_rfl) (by simp) ?_
    refine AllReadyH.cons (by simp only [List.getElem?_toArray, List.getElem?_cons_succ, List.getElem?_cons_zero]; rfl) (fun K hK => ?_) AllReadyH.nil
    go_simp
    refine hK.out _ _ (trivial) (fun hHeld => ?_)
    clear hK K
    try simp only [Act.put, List.setIfInBounds_toArray, List.set_cons_zero, List.set_cons_succ]
    refine wpAnyH_done (by kernel_rfl) ?_ _
    refine NoPanic.normal ?_
    go_wp2_with fail
    go_end0
    have gs : w6.grownBy (w6.setCell ⟨B, 0, none⟩ (.slice a6 n6 c6)) (some B) := Lib.grownBy_setB (World.grownBy.refl _ _) _ _
    have hw := HRB.out
    have s1 := G1.out.size
    have s2 := HSZ.out
    have s3 := K2.out.size
    have l3 := HL3.out
    have lw := HLW.out
    have nb6 : (Value.slice a6 n6 c6).ownBlock ≠ some B := fun e => by have := K1.out.lt _ e; omega
    have nl6 : (Value.slice a6 n6 c6).ownBlock ≠ some L := fun e => by
      rcases K3.out with k | k
      · exact HVL.out (k ▸ e)
      · rw [k] at e; cases e; omega
    refine ⟨rfl, ⟨((HA.out.new G1.out).kept K2.out (fun e => HVR.out e.symm)).kept gs (by simpa using hw.1), ?_, by have := gs.size; omega, l3, _, HB6.out.set 0 _, K1.out.kept gs (.inr nb6), nl6⟩, ?_⟩
    · exact grown_own (grown_own (World.grownBy.trans HK.out G1.out) K2.out (fun n hn => by have := (HOW.out.lt n hn).1; omega)) gs (fun n hn => by cases hn; omega)
    · rw [gs.block L (by omega) (by simp; omega), K2.out.block L (by omega) (fun e => HVL.out e.symm), G1.out.block L lw (by simp)]
  · go_simp
    refine (HWO.out _ (drew_new _)).mono ?_; rintro e0 w1 ⟨v5, rfl, h6, hg⟩
    obtain ⟨a5, n5, c5, rfl⟩ := h6.bts.shape
    clear hHeld
    have G1 := Lib.hid (World.grownBy.trans (drew_new w) hg)
    have BX := Lib.hid h6.bts
    clear h6 hg
    go_wp2_with fail
    refine hK.out _ _ (trivial) (fun hHeld => ?_)
    clear hK K
    try simp only [Act.put, List.setIfInBounds_toArray, List.set_cons_zero, List.set_cons_succ]
    have c0 := (HB.out.new G1.out).cell (i := 0) (x := .slice a1 n1 c1) rfl
    refine wpAnyH_ready (rs := [0]) (by kernel_rfl) (by simp) ?_
    refine AllReadyH.cons (by simp only [List.getElem?_toArray, List.getElem?_cons_zero]; rfl) (fun K hK => ?_) AllReadyH.nil
    go_simp
    clear c0
    refine hK.out _ _ (trivial) (fun hHeld => ?_)
    clear hK K
    try simp only [Act.put, List.setIfInBounds_toArray, List.set_cons_zero, List.set_cons_succ]
    obtain ⟨v6, w6, hrun, k1, k2, k3⟩ := run_append_bts 55 w1 W.heap.size _ _ _ _ (HOW.out.new G1.out) BX.out HLE.out (by have := HSZ.out; have := G1.out.size; omega)
    obtain ⟨a6, n6, c6, rfl⟩ := k1.bts.shape
    have HRUN := Lib.hid hrun
    have K1 := Lib.hid k1
    have K2 := Lib.hid k2
    have K3 := Lib.hid k3
    have hb6 := (HB.out.new G1.out).kept k2 (fun e => HVB.out e.symm)
    have HB6 := Lib.hid hb6
    clear hrun k1 k2 k3 hb6
    refine wpAnyH_ready (rs := [3]) (by kernel_rfl) (by simp) ?_
    refine AllReadyH.cons (by simp only [List.getElem?_toArray, List.getElem?_cons_succ, List.getElem?_cons_zero]; rfl) (fun K hK => ?_) AllReadyH.nil
    refine Lib.wp_append_run _ _ _ _ _ rfl _ _ rfl rfl _ _ HRUN.out ?_
    refine hK.out _ _ (trivial) (fun hHeld => ?_)
    clear hK K
    try simp only [Act.put, List.setIfInBounds_toArray, List.set_cons_zero, List.set_cons_succ]
    have c0 := HB6.out.cell (i := 0) (x := .slice a1 n1 c1) rfl
    have f0 := HB6.out.frozen 0
    refine wpAnyH_ready (rs := [4]) (by kernel_rfl) (by simp) ?_
    refine AllReadyH.cons (by simp only [List.getElem?_toArray, List.getElem?_cons_succ, List.getElem?_cons_zero]; rfl) (fun K hK => ?_) AllReadyH.nil
    go_simp
    refine hK.out _ _ (trivial) (fun hHeld => ?_)
    clear hK K
    try simp only [Act.put, List.setIfInBounds_toArray, List.set_cons_zero, List.set_cons_succ]
    refine wpAnyH_done (by kernel_rfl) ?_ _
    refine NoPanic.normal ?_
    go_wp2_with fail
    go_end0
    have gs : w6.grownBy (w6.setCell ⟨B, 0, none⟩ (.slice a6 n6 c6)) (some B) := Lib.grownBy_setB (World.grownBy.refl _ _) _ _
    have hw := HRB.out
    have s1 := G1.out.size
    have s2 := HSZ.out
    have s3 := K2.out.size
    have l3 := HL3.out
    have lw := HLW.out
    have nb6 : (Value.slice a6 n6 c6).ownBlock ≠ some B := fun e => by have := K1.out.lt _ e; omega
    have nl6 : (Value.slice a6 n6 c6).ownBlock ≠ some L := fun e => by
      rcases K3.out with k | k
      · exact HVL.out (k ▸ e)
      · rw [k] at e; cases e; omega
    refine ⟨rfl, ⟨((HA.out.new G1.out).kept K2.out (fun e => HVR.out e.symm)).kept gs (by simpa using hw.1), ?_, by have := gs.size; omega, l3, _, HB6.out.set 0 _, K1.out.kept gs (.inr nb6), nl6⟩, ?_⟩
    · exact grown_own (grown_own (World.grownBy.trans HK.out G1.out) K2.out (fun n hn => by have := (HOW.out.lt n hn).1; omega)) gs (fun n hn => by cases hn; omega)
    · rw [gs.block L (by omega) (by simp; omega), K2.out.block L (by omega) (fun e => HVL.out e.symm), G1.out.block L lw (by simp)]
end Go.Proofs.Ytpklgcinijlmmaa
namespace Go.Proofs.Ytpklgcinijlmmaa
open Go.RowKit

def isR0 (c : UInt8) : Prop := isR c ∨ c = 0

theorem some_of {α : Type} {f : St → α × St} (h0 : (f none).2 = none) {s : St} {t : List UInt8} (h : (f s).2 = some t) : ∃ u, s = some u := by
  cases s with
  | none => rw [h0] at h; cases h
  | some u => exact ⟨u, rfl⟩
theorem int_step {s : St} {t : List UInt8} (h : (rInt s).2 = some t) : ∃ u, s = some u ∧ u = longB (bits64 (rInt s).1) ++ t := by
  obtain ⟨u, rfl⟩ := some_of (f := rInt) rfl h
  exact ⟨u, rfl, rInt_onto (Prod.ext rfl h)⟩
theorem aSt_onto (s : List UInt8) {t : List UInt8} (h : aSt (some s) 8 = some t) : s = attrB (aRdC (some s)) ++ t := by
  obtain ⟨u7, e7, k7⟩ := int_step (s := aSt (some s) 7) h
  obtain ⟨u6, e6, k6⟩ := int_step (s := aSt (some s) 6) e7
  obtain ⟨u5, e5, k5⟩ := int_step (s := aSt (some s) 5) e6
  obtain ⟨u4, e4, k4⟩ := int_step (s := aSt (some s) 4) e5
  obtain ⟨u3, e3, k3⟩ := int_step (s := aSt (some s) 3) e4
  obtain ⟨u2, e2, k2⟩ := int_step (s := aSt (some s) 2) e3
  obtain ⟨u1, e1, k1⟩ := int_step (s := aSt (some s) 1) e2
  have h0 := rCount_onto (m := 3) (s := s) (Prod.ext rfl (show (rCount 3 (some s)).2 = some u1 from e1))
  rw [h0.2.2.2]
  conv => lhs; rw [k1, k2, k3, k4, k5, k6, k7]
  simp [attrB, ints, at7, aRdC, ← h0.2.2.2]
theorem en_step {s : St} {t : List UInt8} (h : (rEn s).2 = some t) : ∃ u, s = some u ∧ u = enB (rEn s).1 ++ t := by
  obtain ⟨u2, e2, k2⟩ := int_step (s := (rInt (rText 255 s).2).2) h
  obtain ⟨u1, e1, k1⟩ := int_step (s := (rText 255 s).2) e2
  obtain ⟨u, rfl⟩ := some_of (f := rText 255) rfl e1
  have h0 := rText_onto (s := u) (m := 255) (Prod.ext rfl e1)
  refine ⟨u, rfl, ?_⟩
  rw [h0]
  conv => lhs; rw [k1, k2]
  simp [enB, rEn, ← h0]
theorem eSt_onto (s : St) : ∀ (n : Nat) (t : List UInt8), eSt s n = some t → ∃ u, s = some u ∧ u = (eList s n).flatMap enB ++ t
  | 0, t, h => ⟨t, h, by simp [eList]⟩
  | n + 1, t, h => by
    obtain ⟨u1, e1, k1⟩ := en_step (s := eSt s n) h
    obtain ⟨u, e, k⟩ := eSt_onto s n u1 e1
    refine ⟨u, e, ?_⟩
    rw [k, k1]
    simp [eList, List.range_succ]

theorem RR_none {c : UInt8} (hc : isR0 c) (z : PR) (ok : Bool) : (RR (z, ok, none) c).2.2 = none := by
  have ha : ∀ j, aSt none (j + 1) = none := by
    intro j
    induction j with
    | zero => rfl
    | succ j ih => show (rInt (aSt none (j + 1))).2 = none; rw [ih]; rfl
  have he : ∀ n, eSt none n = none := by
    intro n
    induction n with
    | zero => rfl
    | succ n ih => show (rEn (eSt none n)).2 = none; rw [ih]; rfl
  rcases hc with (rfl | rfl | rfl | rfl | rfl | rfl | rfl | rfl | rfl) | rfl
  · rfl
  · exact ha 7
  · rfl
  · rfl
  · rfl
  · rfl
  · rfl
  · exact he _
  · rfl
  · rfl
theorem RRs_none (l : List UInt8) (h : ∀ c ∈ l, isR0 c) : ∀ (y : PR × Bool × St), y.2.2 = none → (l.foldl RR y).2.2 = none := by
  induction l with
  | nil => intro y e; exact e
  | cons c l ih =>
    intro y e
    rw [List.foldl_cons]
    obtain ⟨z, ok, st⟩ := y
    dsimp only at e
    subst e
    exact ih (fun d hd => h d (by simp [hd])) _ (RR_none (h c (by simp)) z ok)

theorem lo32_small {n : Int} (h0 : 0 ≤ n) (h1 : n < 4294967296) : lo32 n = n.toNat := by unfold lo32; rw [Int.emod_eq_of_lt h0 h1]

/-- A result whose parts are as those that are heard. -/
def RM (p : PR) : Prop := (0 ≤ p.a.k ∧ p.a.k < 256) ∧ (0 ≤ p.u ∧ p.u < 18446744073709551616) ∧ (0 ≤ p.v ∧ p.v < 18446744073709551616) ∧ p.x.length ≤ 2048 ∧ p.es.length ≤ 64 ∧ ∀ e ∈ p.es, e.n.length ≤ 255
theorem RM.room {p : PR} (h : RM p) : RB p := ⟨h.1, h.2.1, h.2.2.1, by have := h.2.2.2.1; omega, by have := h.2.2.2.2.1; omega, fun e he => by have := h.2.2.2.2.2 e he; omega⟩
theorem noPR_RM : RM noPR := ⟨by decide, by decide, by decide, by decide, by decide, fun e he => by cases he⟩
theorem rText_max (m : Nat) (s : St) : (rText (m : Int) s).1.length ≤ m := by
  cases s with
  | none => simp [rText, rCount, rFixed]
  | some s =>
    obtain ⟨q, hq⟩ : ∃ q, rText (m : Int) (some s) = q := ⟨_, rfl⟩
    obtain ⟨y, st⟩ := q
    rw [hq]
    have := rText_most hq (by omega)
    dsimp only
    omega
theorem rLong_range (s : St) : 0 ≤ (rLong s).1 ∧ (rLong s).1 < 18446744073709551616 := by
  obtain ⟨q, hq⟩ : ∃ q, rLong s = q := ⟨_, rfl⟩
  obtain ⟨n, st⟩ := q
  rw [hq]
  dsimp only
  cases s with
  | none => cases hq; decide
  | some l =>
    cases st with
    | some u => have := rLong_onto hq; exact ⟨this.1, this.2.1⟩
    | none =>
      unfold rLong at hq
      split at hq
      · cases congrArg Prod.snd hq
      · cases hq; decide
theorem RR_RM {c : UInt8} (hc : isR0 c) {z : PR} (h : RM z) (ok : Bool) (s : St) : RM (RR (z, ok, s) c).1 := by
  obtain ⟨h1, h2, h3, h4, h5, h6⟩ := h
  have c3 := rCount_range 3 (by omega) s
  rcases hc with (rfl | rfl | rfl | rfl | rfl | rfl | rfl | rfl | rfl) | rfl
  · exact ⟨h1, h2, h3, h4, h5, h6⟩
  · exact ⟨⟨c3.1, by show (rCount 3 s).1 < 256; omega⟩, h2, h3, h4, h5, h6⟩
  · exact ⟨h1, h2, h3, rText_max 2048 s, h5, h6⟩
  · exact ⟨h1, h2, h3, h4, h5, h6⟩
  · exact ⟨h1, h2, h3, h4, h5, h6⟩
  · exact ⟨h1, rLong_range s, h3, h4, h5, h6⟩
  · exact ⟨h1, h2, h3, h4, h5, h6⟩
  · have c64 := rCount_range 64 (by omega) s
    refine ⟨h1, h2, h3, h4, ?_, ?_⟩
    · show (eList _ _).length ≤ 64
      simp [eList]; omega
    · intro e he
      have he2 : e ∈ eList (rCount 64 s).2 (rCount 64 s).1.toNat := he
      simp [eList] at he2
      obtain ⟨j, _, rfl⟩ := he2
      exact rText_max 255 _
  · exact ⟨h1, h2, rLong_range s, h4, h5, h6⟩
  · exact ⟨h1, h2, h3, h4, h5, h6⟩
theorem RRs_RM (l : List UInt8) (h : ∀ c ∈ l, isR0 c) : ∀ (y : PR × Bool × St), RM y.1 → RM (l.foldl RR y).1 := by
  induction l with
  | nil => intro y e; exact e
  | cons c l ih =>
    intro y e
    rw [List.foldl_cons]
    obtain ⟨z, ok, st⟩ := y
    exact ih (fun d hd => h d (by simp [hd])) _ (RR_RM (h c (by simp)) e ok st)

theorem rF_72 (p : PR) : rF p 72 = (hEnc fnv p.h).1 := by unfold rF; simp
theorem rF_65 (p : PR) : rF p 65 = attrB p.a := by unfold rF; simp
theorem rF_116 (p : PR) : rF p 116 = textB p.x := by unfold rF; simp
theorem rF_78 (p : PR) : rF p 78 = longB (bits64 p.n) := by unfold rF; simp
theorem rF_102 (p : PR) : rF p 102 = longB (bits64 p.f) := by unfold rF; simp
theorem rF_117 (p : PR) : rF p 117 = longB p.u.toNat := by unfold rF; simp
theorem rF_101 (p : PR) : rF p 101 = flagB p.d := by unfold rF; simp
theorem rF_69 (p : PR) : rF p 69 = ensB p.es := by unfold rF; simp
theorem rF_118 (p : PR) : rF p 118 = longB p.v.toNat := by unfold rF; simp
theorem rF_0 (p : PR) : rF p 0 = word4 (lo32 p.e) := by unfold rF; simp
set_option maxHeartbeats 400000 in
theorem RR_onto_72 {z z' : PR} {ok ok' : Bool} {s t : List UInt8} (h : RR (z, ok, some s) 72 = (z', ok', some t)) (hk : ok' = true) :
    ok = true ∧ s = rF z' 72 ++ t ∧ ∀ d, isR0 d → d ≠ 72 → rF z' d = rF z d := by
  obtain ⟨q, hq⟩ : ∃ q, hRd (some s) = q := ⟨_, rfl⟩
  have h1 : ({ z with h := (hRd (some s)).1.1 }, ok && (hRd (some s)).1.2, (hRd (some s)).2) = (z', ok', some t) := h
  rw [hq] at h1
  obtain ⟨⟨g, y⟩, st⟩ := q
  cases h1
  have hy : ok = true ∧ y = true := by simpa using hk
  obtain ⟨rfl, rfl⟩ := hy
  obtain ⟨e1, e2⟩ := hRd_onto hq
  refine ⟨rfl, by show s = (hEnc fnv g).1 ++ t; rw [hEnc_of e2]; exact e1, ?_⟩
  intro d hd hne
  rcases hd with (rfl | rfl | rfl | rfl | rfl | rfl | rfl | rfl | rfl) | rfl
  · exact absurd rfl hne
  · simp only [rF_65]
  · simp only [rF_116]
  · simp only [rF_78]
  · simp only [rF_102]
  · simp only [rF_117]
  · simp only [rF_101]
  · simp only [rF_69]
  · simp only [rF_118]
  · simp only [rF_0]
set_option maxHeartbeats 400000 in
theorem RR_onto_65 {z z' : PR} {ok ok' : Bool} {s t : List UInt8} (h : RR (z, ok, some s) 65 = (z', ok', some t)) (hk : ok' = true) :
    ok = true ∧ s = rF z' 65 ++ t ∧ ∀ d, isR0 d → d ≠ 65 → rF z' d = rF z d := by
  have h1 : ({ z with a := aRdC (some s) }, ok && decide (1 ≤ (rCount 3 (some s)).1), aSt (some s) 8) = (z', ok', some t) := h
  obtain ⟨A, hA⟩ : ∃ A, aRdC (some s) = A := ⟨_, rfl⟩
  have h9 := fun u => aSt_onto s (t := u)
  rw [hA] at h1 h9
  obtain ⟨h2, h3⟩ := Prod.mk.inj h1
  obtain ⟨h4, h5⟩ := Prod.mk.inj h3
  subst h2
  rw [hk] at h4
  refine ⟨by simp at h4; exact h4.1, h9 t h5, ?_⟩
  intro d hd hne
  rcases hd with (rfl | rfl | rfl | rfl | rfl | rfl | rfl | rfl | rfl) | rfl
  · simp only [rF_72]
  · exact absurd rfl hne
  · simp only [rF_116]
  · simp only [rF_78]
  · simp only [rF_102]
  · simp only [rF_117]
  · simp only [rF_101]
  · simp only [rF_69]
  · simp only [rF_118]
  · simp only [rF_0]
set_option maxHeartbeats 400000 in
theorem RR_onto_116 {z z' : PR} {ok ok' : Bool} {s t : List UInt8} (h : RR (z, ok, some s) 116 = (z', ok', some t)) (hk : ok' = true) :
    ok = true ∧ s = rF z' 116 ++ t ∧ ∀ d, isR0 d → d ≠ 116 → rF z' d = rF z d := by
  obtain ⟨q, hq⟩ : ∃ q, rText 2048 (some s) = q := ⟨_, rfl⟩
  have h1 : ({ z with x := (rText 2048 (some s)).1 }, ok, (rText 2048 (some s)).2) = (z', ok', some t) := h
  rw [hq] at h1
  obtain ⟨y, st⟩ := q
  cases h1
  refine ⟨hk, rText_onto hq, ?_⟩
  intro d hd hne
  rcases hd with (rfl | rfl | rfl | rfl | rfl | rfl | rfl | rfl | rfl) | rfl
  · simp only [rF_72]
  · simp only [rF_65]
  · exact absurd rfl hne
  · simp only [rF_78]
  · simp only [rF_102]
  · simp only [rF_117]
  · simp only [rF_101]
  · simp only [rF_69]
  · simp only [rF_118]
  · simp only [rF_0]
set_option maxHeartbeats 400000 in
theorem RR_onto_78 {z z' : PR} {ok ok' : Bool} {s t : List UInt8} (h : RR (z, ok, some s) 78 = (z', ok', some t)) (hk : ok' = true) :
    ok = true ∧ s = rF z' 78 ++ t ∧ ∀ d, isR0 d → d ≠ 78 → rF z' d = rF z d := by
  obtain ⟨q, hq⟩ : ∃ q, rInt (some s) = q := ⟨_, rfl⟩
  have h1 : ({ z with n := (rInt (some s)).1 }, ok, (rInt (some s)).2) = (z', ok', some t) := h
  rw [hq] at h1
  obtain ⟨y, st⟩ := q
  cases h1
  refine ⟨hk, rInt_onto hq, ?_⟩
  intro d hd hne
  rcases hd with (rfl | rfl | rfl | rfl | rfl | rfl | rfl | rfl | rfl) | rfl
  · simp only [rF_72]
  · simp only [rF_65]
  · simp only [rF_116]
  · exact absurd rfl hne
  · simp only [rF_102]
  · simp only [rF_117]
  · simp only [rF_101]
  · simp only [rF_69]
  · simp only [rF_118]
  · simp only [rF_0]
set_option maxHeartbeats 400000 in
theorem RR_onto_102 {z z' : PR} {ok ok' : Bool} {s t : List UInt8} (h : RR (z, ok, some s) 102 = (z', ok', some t)) (hk : ok' = true) :
    ok = true ∧ s = rF z' 102 ++ t ∧ ∀ d, isR0 d → d ≠ 102 → rF z' d = rF z d := by
  obtain ⟨q, hq⟩ : ∃ q, rInt (some s) = q := ⟨_, rfl⟩
  have h1 : ({ z with f := (rInt (some s)).1 }, ok, (rInt (some s)).2) = (z', ok', some t) := h
  rw [hq] at h1
  obtain ⟨y, st⟩ := q
  cases h1
  refine ⟨hk, rInt_onto hq, ?_⟩
  intro d hd hne
  rcases hd with (rfl | rfl | rfl | rfl | rfl | rfl | rfl | rfl | rfl) | rfl
  · simp only [rF_72]
  · simp only [rF_65]
  · simp only [rF_116]
  · simp only [rF_78]
  · exact absurd rfl hne
  · simp only [rF_117]
  · simp only [rF_101]
  · simp only [rF_69]
  · simp only [rF_118]
  · simp only [rF_0]
set_option maxHeartbeats 400000 in
theorem RR_onto_117 {z z' : PR} {ok ok' : Bool} {s t : List UInt8} (h : RR (z, ok, some s) 117 = (z', ok', some t)) (hk : ok' = true) :
    ok = true ∧ s = rF z' 117 ++ t ∧ ∀ d, isR0 d → d ≠ 117 → rF z' d = rF z d := by
  obtain ⟨q, hq⟩ : ∃ q, rLong (some s) = q := ⟨_, rfl⟩
  have h1 : ({ z with u := (rLong (some s)).1 }, ok, (rLong (some s)).2) = (z', ok', some t) := h
  rw [hq] at h1
  obtain ⟨y, st⟩ := q
  cases h1
  refine ⟨hk, (rLong_onto hq).2.2, ?_⟩
  intro d hd hne
  rcases hd with (rfl | rfl | rfl | rfl | rfl | rfl | rfl | rfl | rfl) | rfl
  · simp only [rF_72]
  · simp only [rF_65]
  · simp only [rF_116]
  · simp only [rF_78]
  · simp only [rF_102]
  · exact absurd rfl hne
  · simp only [rF_101]
  · simp only [rF_69]
  · simp only [rF_118]
  · simp only [rF_0]
set_option maxHeartbeats 400000 in
theorem RR_onto_101 {z z' : PR} {ok ok' : Bool} {s t : List UInt8} (h : RR (z, ok, some s) 101 = (z', ok', some t)) (hk : ok' = true) :
    ok = true ∧ s = rF z' 101 ++ t ∧ ∀ d, isR0 d → d ≠ 101 → rF z' d = rF z d := by
  obtain ⟨q, hq⟩ : ∃ q, rFlag (some s) = q := ⟨_, rfl⟩
  have h1 : ({ z with d := (rFlag (some s)).1 }, ok, (rFlag (some s)).2) = (z', ok', some t) := h
  rw [hq] at h1
  obtain ⟨y, st⟩ := q
  cases h1
  refine ⟨hk, rFlag_onto hq, ?_⟩
  intro d hd hne
  rcases hd with (rfl | rfl | rfl | rfl | rfl | rfl | rfl | rfl | rfl) | rfl
  · simp only [rF_72]
  · simp only [rF_65]
  · simp only [rF_116]
  · simp only [rF_78]
  · simp only [rF_102]
  · simp only [rF_117]
  · exact absurd rfl hne
  · simp only [rF_69]
  · simp only [rF_118]
  · simp only [rF_0]
set_option maxHeartbeats 400000 in
theorem RR_onto_69 {z z' : PR} {ok ok' : Bool} {s t : List UInt8} (h : RR (z, ok, some s) 69 = (z', ok', some t)) (hk : ok' = true) :
    ok = true ∧ s = rF z' 69 ++ t ∧ ∀ d, isR0 d → d ≠ 69 → rF z' d = rF z d := by
  obtain ⟨E, hE⟩ : ∃ E, eList (rCount 64 (some s)).2 (rCount 64 (some s)).1.toNat = E := ⟨_, rfl⟩
  have h1 : ({ z with es := eList (rCount 64 (some s)).2 (rCount 64 (some s)).1.toNat }, ok, eSt (rCount 64 (some s)).2 (rCount 64 (some s)).1.toNat) = (z', ok', some t) := h
  have hl : E.length = (rCount 64 (some s)).1.toNat := by rw [← hE]; simp [eList]
  have h9 := fun u => eSt_onto (rCount 64 (some s)).2 (rCount 64 (some s)).1.toNat u
  rw [hE] at h1 h9
  obtain ⟨h2, h3⟩ := Prod.mk.inj h1
  obtain ⟨h4, h5⟩ := Prod.mk.inj h3
  subst h2
  obtain ⟨u, e, k⟩ := h9 _ h5
  have h6 := rCount_onto (m := 64) (s := s) (Prod.ext rfl e)
  refine ⟨by rw [h4]; exact hk, ?_, ?_⟩
  · show s = ensB E ++ t
    unfold ensB
    rw [hl, List.append_assoc, ← k]
    exact h6.2.2.2
  intro d hd hne
  rcases hd with (rfl | rfl | rfl | rfl | rfl | rfl | rfl | rfl | rfl) | rfl
  · simp only [rF_72]
  · simp only [rF_65]
  · simp only [rF_116]
  · simp only [rF_78]
  · simp only [rF_102]
  · simp only [rF_117]
  · simp only [rF_101]
  · exact absurd rfl hne
  · simp only [rF_118]
  · simp only [rF_0]
set_option maxHeartbeats 400000 in
theorem RR_onto_118 {z z' : PR} {ok ok' : Bool} {s t : List UInt8} (h : RR (z, ok, some s) 118 = (z', ok', some t)) (hk : ok' = true) :
    ok = true ∧ s = rF z' 118 ++ t ∧ ∀ d, isR0 d → d ≠ 118 → rF z' d = rF z d := by
  obtain ⟨q, hq⟩ : ∃ q, rLong (some s) = q := ⟨_, rfl⟩
  have h1 : ({ z with v := (rLong (some s)).1 }, ok, (rLong (some s)).2) = (z', ok', some t) := h
  rw [hq] at h1
  obtain ⟨y, st⟩ := q
  cases h1
  refine ⟨hk, (rLong_onto hq).2.2, ?_⟩
  intro d hd hne
  rcases hd with (rfl | rfl | rfl | rfl | rfl | rfl | rfl | rfl | rfl) | rfl
  · simp only [rF_72]
  · simp only [rF_65]
  · simp only [rF_116]
  · simp only [rF_78]
  · simp only [rF_102]
  · simp only [rF_117]
  · simp only [rF_101]
  · simp only [rF_69]
  · exact absurd rfl hne
  · simp only [rF_0]
set_option maxHeartbeats 400000 in
theorem RR_onto_0 {z z' : PR} {ok ok' : Bool} {s t : List UInt8} (h : RR (z, ok, some s) 0 = (z', ok', some t)) (hk : ok' = true) :
    ok = true ∧ s = rF z' 0 ++ t ∧ ∀ d, isR0 d → d ≠ 0 → rF z' d = rF z d := by
  obtain ⟨q, hq⟩ : ∃ q, rCount 63 (some s) = q := ⟨_, rfl⟩
  have h1 : ({ z with e := (rCount 63 (some s)).1 }, ok, (rCount 63 (some s)).2) = (z', ok', some t) := h
  rw [hq] at h1
  obtain ⟨y, st⟩ := q
  cases h1
  have h6 := rCount_onto hq
  refine ⟨hk, by show s = word4 (lo32 y) ++ t; rw [lo32_small h6.1 h6.2.1]; exact h6.2.2.2, ?_⟩
  intro d hd hne
  rcases hd with (rfl | rfl | rfl | rfl | rfl | rfl | rfl | rfl | rfl) | rfl
  · simp only [rF_72]
  · simp only [rF_65]
  · simp only [rF_116]
  · simp only [rF_78]
  · simp only [rF_102]
  · simp only [rF_117]
  · simp only [rF_101]
  · simp only [rF_69]
  · simp only [rF_118]
  · exact absurd rfl hne
/-- One field, heard. -/
theorem RR_onto {c : UInt8} (hc : isR0 c) {z z' : PR} {ok ok' : Bool} {s t : List UInt8} (h : RR (z, ok, some s) c = (z', ok', some t)) (hk : ok' = true) :
    ok = true ∧ s = rF z' c ++ t ∧ ∀ d, isR0 d → d ≠ c → rF z' d = rF z d := by
  rcases hc with (rfl | rfl | rfl | rfl | rfl | rfl | rfl | rfl | rfl) | rfl
  · exact RR_onto_72 h hk
  · exact RR_onto_65 h hk
  · exact RR_onto_116 h hk
  · exact RR_onto_78 h hk
  · exact RR_onto_102 h hk
  · exact RR_onto_117 h hk
  · exact RR_onto_101 h hk
  · exact RR_onto_69 h hk
  · exact RR_onto_118 h hk
  · exact RR_onto_0 h hk

theorem RRs_onto : ∀ (l : List UInt8), (∀ c ∈ l, isR0 c) → l.Nodup → ∀ (z : PR) (ok : Bool) (s t : List UInt8) (p : PR), l.foldl RR (z, ok, some s) = (p, true, some t) →
    ok = true ∧ s = l.flatMap (rF p) ++ t ∧ ∀ d, isR0 d → d ∉ l → rF p d = rF z d
  | [], _, _, z, ok, s, t, p, h => by
    cases h
    exact ⟨rfl, rfl, fun d hd _ => rfl⟩
  | c :: l, hl, hn, z, ok, s, t, p, h => by
    rw [List.foldl_cons] at h
    have hcl : c ∉ l := (List.nodup_cons.1 hn).1
    obtain ⟨y, hy⟩ : ∃ y, RR (z, ok, some s) c = y := ⟨_, rfl⟩
    rw [hy] at h
    obtain ⟨z1, ok1, st⟩ := y
    cases st with
    | none =>
      have := RRs_none l (fun d hd => hl d (by simp [hd])) (z1, ok1, none) rfl
      rw [h] at this
      cases this
    | some s1 =>
      obtain ⟨k1, k2, k3⟩ := RRs_onto l (fun d hd => hl d (by simp [hd])) (List.nodup_cons.1 hn).2 z1 ok1 s1 t p h
      obtain ⟨j1, j2, j3⟩ := RR_onto (hl c (by simp)) hy k1
      have ec := k3 c (hl c (by simp)) hcl
      refine ⟨j1, ?_, ?_⟩
      · rw [List.flatMap_cons, List.append_assoc, ← k2, ec]
        exact j2
      · intro d hd hdl
        rw [k3 d hd (fun e => hdl (by simp [e])), j3 d hd (fun e => hdl (by simp [e]))]

theorem tells_nodup (k : Nat) : (tells k).Nodup := by
  unfold tells
  split <;> decide
theorem qOf_isR0 (k e : Int) : ∀ c ∈ qOf k e, isR0 c := by
  intro c hc
  unfold qOf at hc
  split at hc
  · rcases List.mem_cons.1 hc with rfl | hc
    · exact .inr rfl
    · exact .inl (rowAt_isR k c hc)
  · simp at hc
    exact .inr hc
theorem qOf_nodup (k e : Int) : (qOf k e).Nodup := by
  unfold qOf
  split
  · refine List.nodup_cons.2 ⟨fun h => ?_, ?_⟩
    · have := rowAt_isR k 0 h
      revert this
      unfold isR
      decide
    · rw [rowAt_tells]
      split
      · exact tells_nodup _
      · exact List.nodup_nil
  · exact List.nodup_cons.2 ⟨by simp, List.nodup_nil⟩
theorem RR_e {c : UInt8} (hc : isR c) (z : PR) (ok : Bool) (s : St) : (RR (z, ok, s) c).1.e = z.e := by
  rcases hc with rfl | rfl | rfl | rfl | rfl | rfl | rfl | rfl | rfl <;> rfl
theorem RRs_e (l : List UInt8) (h : ∀ c ∈ l, isR c) : ∀ (y : PR × Bool × St), (l.foldl RR y).1.e = y.1.e := by
  induction l with
  | nil => intro y; rfl
  | cons c l ih =>
    intro y
    rw [List.foldl_cons]
    obtain ⟨z, ok, st⟩ := y
    rw [ih (fun d hd => h d (by simp [hd]))]
    exact RR_e (h c (by simp)) z ok st
theorem zRR_e (k e : Int) (tx : List UInt8) : (zRR (qOf k e) tx).1.e = (zRR [0] tx).1.e := by
  unfold qOf
  split
  · exact RRs_e (rowAt tellsT k) (rowAt_isR k) (zRR [0] tx)
  · rfl

/-- What is heard is told by just these bytes. -/
theorem hear_onto {k : Int} {s : List UInt8} {p : PR} (h : cHear k s = (p, 0)) : rWs (qOf k p.e) p = s ∧ RM p := by
  unfold cHear at h
  split at h
  · obtain ⟨y, hy⟩ : ∃ y, zRR (qOf k (zRR [0] s).1.e) s = y := ⟨_, rfl⟩
    have he := zRR_e k (zRR [0] s).1.e s
    rw [hy] at h he
    unfold rJudge at h
    split at h
    · rename_i hc
      obtain ⟨q, ok, st⟩ := y
      simp only [Bool.and_eq_true] at hc
      obtain ⟨rfl, hd⟩ := hc
      obtain rfl := rDone_yes hd
      obtain rfl : q = p := congrArg Prod.fst h
      dsimp only at he
      rw [← he] at hy
      obtain ⟨_, h2, _⟩ := RRs_onto _ (qOf_isR0 k q.e) (qOf_nodup k q.e) noPR true s [] q hy
      rw [List.append_nil] at h2
      have hm := RRs_RM (qOf k q.e) (qOf_isR0 k q.e) (noPR, true, some s) noPR_RM
      have hy2 : (qOf k q.e).foldl RR (noPR, true, some s) = (q, true, some []) := hy
      rw [hy2] at hm
      exact ⟨h2.symm, hm⟩
    · cases congrArg Prod.snd h
  · cases congrArg Prod.snd h
theorem rF_whole (p : PR) {c : UInt8} (hc : isR0 c) : (rF p c).length % 4 = 0 := by
  have hh : ((hEnc fnv p.h).1).length % 4 = 0 := by
    unfold hEnc
    split
    · rw [hB_len]
    · rfl
  have ht : ∀ l, (textB l).length % 4 = 0 := fun l => by rw [textB_len]; have := pad_mod l.length; omega
  have hen : ∀ es : List En, (es.flatMap enB).length % 4 = 0 := by
    intro es
    induction es with
    | nil => rfl
    | cons e l ih =>
      have := ht e.n
      rw [List.flatMap_cons, List.length_append]
      unfold enB at *
      rw [List.length_append, List.length_append, longB_len, longB_len]
      omega
  rcases hc with (rfl | rfl | rfl | rfl | rfl | rfl | rfl | rfl | rfl) | rfl
  · rw [rF_72]; exact hh
  · rw [rF_65, attrB_len]
  · rw [rF_116]; exact ht p.x
  · rw [rF_78, longB_len]
  · rw [rF_102, longB_len]
  · rw [rF_117, longB_len]
  · rw [rF_101, flagB_len]
  · rw [rF_69]
    unfold ensB
    rw [List.length_append, word4_len]
    have := hen p.es
    omega
  · rw [rF_118, longB_len]
  · rw [rF_0, word4_len]
theorem rWs_whole (p : PR) : ∀ (q : List UInt8), (∀ c ∈ q, isR0 c) → (rWs q p).length % 4 = 0
  | [], _ => rfl
  | c :: q, h => by
    have h1 := rWs_whole p q (fun d hd => h d (by simp [hd]))
    have h2 := rF_whole p (h c (by simp))
    unfold rWs at *
    rw [List.flatMap_cons, List.length_append]
    omega
end Go.Proofs.Ytpklgcinijlmmaa
namespace Go.Proofs.Ytpklgcinijlmmaa
open Go.RowKit

set_option maxRecDepth 20000 in
set_option maxHeartbeats 8000000 in
theorem refSame_one (p : PR) (ev fv : Value) (w : World) (h1 : Ents w ev p.es) (h2 : Ents w fv p.es) : Calls Try.prog 18 #[.agg (prC p ev), .agg (prC p fv)] w fun e w' => e = .returned (.bool true) ∧ w.grownBy w' none := by
  obtain ⟨a1, c1, rfl, hm1⟩ := h1.form
  obtain ⟨a2, c2, rfl, hm2⟩ := h2.form
  have HA1 := Lib.hid (fun h0 : 0 < p.es.length => h1.at h0)
  have HA2 := Lib.hid (fun h0 : 0 < p.es.length => h2.at h0)
  unfold maxLen at hm1
  obtain ⟨n, hn⟩ : ∃ n, p.es.length = n := ⟨_, rfl⟩
  have HN := Lib.hid hn
  have z1 : (n : Int) ≤ 9223372036854775807 := by omega
  rw [hn]
  unfold prC txt
  obtain ⟨b1, b2, hg⟩ := boxes2 w 42 #[.int .i64 p.e, .int .i64 p.h.s, .int .i64 p.h.i, .int .i64 p.h.g, .int .u8 p.a.k, .int .i64 p.a.m, .int .i64 p.a.l, .int .i64 p.a.s, .int .i64 p.a.mt, .int .i64 p.a.ct, .int .i64 p.a.i, .int .i64 p.a.g, .string ⟨p.x.toArray⟩, .int .i64 p.n, .int .i64 p.f, .int .u64 p.u, .bool p.d, .slice a1 n c1, .int .u64 p.v] #[.int .i64 p.e, .int .i64 p.h.s, .int .i64 p.h.i, .int .i64 p.h.g, .int .u8 p.a.k, .int .i64 p.a.m, .int .i64 p.a.l, .int .i64 p.a.s, .int .i64 p.a.mt, .int .i64 p.a.ct, .int .i64 p.a.i, .int .i64 p.a.g, .string ⟨p.x.toArray⟩, .int .i64 p.n, .int .i64 p.f, .int .u64 p.u, .bool p.d, .slice a2 n c2, .int .u64 p.v]
  have HB1 := Lib.hid b1
  have HB2 := Lib.hid b2
  have HG := Lib.hid hg
  have q0 := b1.cell (i := 0) (x := .int .i64 p.e) rfl
  have r0 := b2.cell (i := 0) (x := .int .i64 p.e) rfl
  have q1 := b1.cell (i := 1) (x := .int .i64 p.h.s) rfl
  have r1 := b2.cell (i := 1) (x := .int .i64 p.h.s) rfl
  have q2 := b1.cell (i := 2) (x := .int .i64 p.h.i) rfl
  have r2 := b2.cell (i := 2) (x := .int .i64 p.h.i) rfl
  have q3 := b1.cell (i := 3) (x := .int .i64 p.h.g) rfl
  have r3 := b2.cell (i := 3) (x := .int .i64 p.h.g) rfl
  have q4 := b1.cell (i := 4) (x := .int .u8 p.a.k) rfl
  have r4 := b2.cell (i := 4) (x := .int .u8 p.a.k) rfl
  have q5 := b1.cell (i := 5) (x := .int .i64 p.a.m) rfl
  have r5 := b2.cell (i := 5) (x := .int .i64 p.a.m) rfl
  have q6 := b1.cell (i := 6) (x := .int .i64 p.a.l) rfl
  have r6 := b2.cell (i := 6) (x := .int .i64 p.a.l) rfl
  have q7 := b1.cell (i := 7) (x := .int .i64 p.a.s) rfl
  have r7 := b2.cell (i := 7) (x := .int .i64 p.a.s) rfl
  have q8 := b1.cell (i := 8) (x := .int .i64 p.a.mt) rfl
  have r8 := b2.cell (i := 8) (x := .int .i64 p.a.mt) rfl
  have q9 := b1.cell (i := 9) (x := .int .i64 p.a.ct) rfl
  have r9 := b2.cell (i := 9) (x := .int .i64 p.a.ct) rfl
  have q10 := b1.cell (i := 10) (x := .int .i64 p.a.i) rfl
  have r10 := b2.cell (i := 10) (x := .int .i64 p.a.i) rfl
  have q11 := b1.cell (i := 11) (x := .int .i64 p.a.g) rfl
  have r11 := b2.cell (i := 11) (x := .int .i64 p.a.g) rfl
  have q12 := b1.cell (i := 12) (x := .string ⟨p.x.toArray⟩) rfl
  have r12 := b2.cell (i := 12) (x := .string ⟨p.x.toArray⟩) rfl
  have q13 := b1.cell (i := 13) (x := .int .i64 p.n) rfl
  have r13 := b2.cell (i := 13) (x := .int .i64 p.n) rfl
  have q14 := b1.cell (i := 14) (x := .int .i64 p.f) rfl
  have r14 := b2.cell (i := 14) (x := .int .i64 p.f) rfl
  have q15 := b1.cell (i := 15) (x := .int .u64 p.u) rfl
  have r15 := b2.cell (i := 15) (x := .int .u64 p.u) rfl
  have q16 := b1.cell (i := 16) (x := .bool p.d) rfl
  have r16 := b2.cell (i := 16) (x := .bool p.d) rfl
  have q17 := b1.cell (i := 17) (x := .slice a1 n c1) rfl
  have r17 := b2.cell (i := 17) (x := .slice a2 n c2) rfl
  have q18 := b1.cell (i := 18) (x := .int .u64 p.v) rfl
  have r18 := b2.cell (i := 18) (x := .int .u64 p.v) rfl
  clear h1 h2 hm1 hm2 hn b1 b2 hg
  go_enter Try.func18, Try.ntmps18
  go_wp2_with fail
  clear q0 r0 q1 r1 q2 r2 q3 r3 q4 r4 q5 r5 q6 r6 q7 r7 q8 r8 q9 r9 q10 r10 q11 r11 q12 r12 q13 r13 q14 r14 q15 r15 q16 r16 q17 r17 q18 r18
  go_loopw [5] (fun i w' => ∃ j : Nat, j ≤ n ∧ i = .int .i64 j ∧ Blk w' w.heap.size 42 #[.int .i64 p.e, .int .i64 p.h.s, .int .i64 p.h.i, .int .i64 p.h.g, .int .u8 p.a.k, .int .i64 p.a.m, .int .i64 p.a.l, .int .i64 p.a.s, .int .i64 p.a.mt, .int .i64 p.a.ct, .int .i64 p.a.i, .int .i64 p.a.g, .string ⟨p.x.toArray⟩, .int .i64 p.n, .int .i64 p.f, .int .u64 p.u, .bool p.d, .slice a1 n c1, .int .u64 p.v] ∧ Blk w' (w.heap.size + 1) 42 #[.int .i64 p.e, .int .i64 p.h.s, .int .i64 p.h.i, .int .i64 p.h.g, .int .u8 p.a.k, .int .i64 p.a.m, .int .i64 p.a.l, .int .i64 p.a.s, .int .i64 p.a.mt, .int .i64 p.a.ct, .int .i64 p.a.i, .int .i64 p.a.g, .string ⟨p.x.toArray⟩, .int .i64 p.n, .int .i64 p.f, .int .u64 p.u, .bool p.d, .slice a2 n c2, .int .u64 p.v] ∧ w.grownBy w' none) (fun i w' => n - (intOf i).toNat)
  case atStart => exact ⟨0, Nat.zero_le _, rfl, HB1.out, HB2.out, HG.out⟩
  case round =>
    obtain ⟨j, hj, rfl, x1, x2, hg⟩ := hrel
    have X1 := Lib.hid x1
    have X2 := Lib.hid x2
    have HR := Lib.hid hg
    have d1 := x1.cell (i := 17) (x := .slice a1 n c1) rfl
    have d2 := x2.cell (i := 17) (x := .slice a2 n c2) rfl
    clear x1 x2 hg
    by_cases hlt : j < n
    · have hlt1 : j < p.es.length := by have := HN.out; omega
      obtain ⟨b1, o1, rfl, hat1⟩ := HA1.out (by omega)
      obtain ⟨b2, o2, rfl, hat2⟩ := HA2.out (by omega)
      obtain ⟨k0, k1, k2⟩ := hat1 j hlt1
      obtain ⟨m0, m1, m2⟩ := hat2 j hlt1
      have k0 := HR.out.cell k0 (by simp)
      have k1 := HR.out.cell k1 (by simp)
      have k2 := HR.out.cell k2 (by simp)
      have m0 := HR.out.cell m0 (by simp)
      have m1 := HR.out.cell m1 (by simp)
      have m2 := HR.out.cell m2 (by simp)
      have hne := fun w => neq_ent (p.es.getD j ⟨[], 0, 0⟩) (p.es.getD j ⟨[], 0, 0⟩) w
      rw [decide_eq_false (show ¬ (p.es.getD j ⟨[], 0, 0⟩ ≠ p.es.getD j ⟨[], 0, 0⟩) from fun h => h rfl)] at hne
      obtain ⟨⟨nx, ix, cx⟩, hx⟩ : ∃ x, p.es.getD j ⟨[], 0, 0⟩ = x := ⟨_, rfl⟩
      rw [hx] at k0 k1 k2 m0 m1 m2 hne
      unfold txt at k0 m0 hne
      dsimp only at k0 k1 k2 m0 m1 m2 hne
      have hjn : (j : Int) < n := by omega
      clear hx hat1 hat2
      go_upto_region 6 with fail
      refine wp_region_noPanic ?_
      refine wp_region_held_drew (S := fun w' => (w'.cell? ⟨w.heap.size, 17, none⟩ = some (.slice (some ⟨b1, o1, none⟩) n c1) ∧ w'.cell? ⟨w.heap.size + 1, 17, none⟩ = some (.slice (some ⟨b2, o2, none⟩) n c2)) ∧ w'.cell? ⟨b1, o1 + j * 3, none⟩ = some (.string ⟨nx.toArray⟩) ∧ w'.cell? ⟨b1, o1 + j * 3 + 1, none⟩ = some (.int .i64 ix) ∧ w'.cell? ⟨b1, o1 + j * 3 + 2, none⟩ = some (.int .i64 cx) ∧ w'.cell? ⟨b2, o2 + j * 3, none⟩ = some (.string ⟨nx.toArray⟩) ∧ w'.cell? ⟨b2, o2 + j * 3 + 1, none⟩ = some (.int .i64 ix) ∧ w'.cell? ⟨b2, o2 + j * 3 + 2, none⟩ = some (.int .i64 cx)) (by kernel_rfl) (⟨⟨(drew_new wr).cell d1 (by simp), (drew_new wr).cell d2 (by simp)⟩, (drew_new wr).cell k0 (by simp), (drew_new wr).cell k1 (by simp), (drew_new wr).cell k2 (by simp), (drew_new wr).cell m0 (by simp), (drew_new wr).cell m1 (by simp), (drew_new wr).cell m2 (by simp)⟩) (fun hHeld => ?_)
      refine wpAnyH_take (i := 0) (v := ?_) (by simp only [List.getElem?_toArray, List.getElem?_cons_zero]; rfl) (by kernel_rfl) (by kernel_rfl) (by kernel_rfl) (fun _ _ _ h => h) (Or.inl ⟨by rfl, ?_⟩) (by assumption) ?_
      rotate_left 1
      · intro w hSw; (try dsimp only at hSw); go_simp; all_goals (with_reducible rfl)
      try simp only [Act.put, List.setIfInBounds_toArray, List.set_cons_zero, List.set_cons_succ]
      refine wpAnyH_take (i := 1) (v := ?_) (by simp only [List.getElem?_toArray, List.getElem?_cons_succ, List.getElem?_cons_zero]; rfl) (by kernel_rfl) (by kernel_rfl) (by kernel_rfl) (fun _ _ _ h => h) (Or.inl ⟨by rfl, ?_⟩) (by assumption) ?_
      rotate_left 1
      · intro w hSw; (try dsimp only at hSw); go_simp; all_goals (with_reducible rfl)
      try simp only [Act.put, List.setIfInBounds_toArray, List.set_cons_zero, List.set_cons_succ]
      refine wpAnyH_take (i := 2) (v := ?_) (by simp only [List.getElem?_toArray, List.getElem?_cons_succ, List.getElem?_cons_zero]; rfl) (by kernel_rfl) (by kernel_rfl) (by kernel_rfl) (fun _ _ _ h => h) (Or.inl ⟨by rfl, ?_⟩) (by assumption) ?_
      rotate_left 1
      · intro w hSw; (try dsimp only at hSw); go_simp; all_goals (with_reducible rfl)
      try simp only [Act.put, List.setIfInBounds_toArray, List.set_cons_zero, List.set_cons_succ]
      refine wpAnyH_take (i := 3) (v := ?_) (by simp only [List.getElem?_toArray, List.getElem?_cons_succ, List.getElem?_cons_zero]; rfl) (by kernel_rfl) (by kernel_rfl) (by kernel_rfl) (fun _ _ _ h => h) (Or.inl ⟨by rfl, ?_⟩) (by assumption) ?_
      rotate_left 1
      · intro w hSw; (try dsimp only at hSw); go_simp; all_goals (with_reducible rfl)
      try simp only [Act.put, List.setIfInBounds_toArray, List.set_cons_zero, List.set_cons_succ]
      refine wpAnyH_take (i := 4) (v := ?_) (by simp only [List.getElem?_toArray, List.getElem?_cons_succ, List.getElem?_cons_zero]; rfl) (by kernel_rfl) (by kernel_rfl) (by kernel_rfl) (fun _ _ _ h => h) (Or.inl ⟨by rfl, ?_⟩) (by assumption) ?_
      rotate_left 1
      · intro w hSw; (try dsimp only at hSw); go_simp; all_goals (with_reducible rfl)
      try simp only [Act.put, List.setIfInBounds_toArray, List.set_cons_zero, List.set_cons_succ]
      refine wpAnyH_take (i := 5) (v := ?_) (by simp only [List.getElem?_toArray, List.getElem?_cons_succ, List.getElem?_cons_zero]; rfl) (by kernel_rfl) (by kernel_rfl) (by kernel_rfl) (fun _ _ _ h => h) (Or.inl ⟨by rfl, ?_⟩) (by assumption) ?_
      rotate_left 1
      · intro w hSw; (try dsimp only at hSw); go_simp; all_goals (with_reducible rfl)
      try simp only [Act.put, List.setIfInBounds_toArray, List.set_cons_zero, List.set_cons_succ]
      refine wpAnyH_take (i := 6) (v := ?_) (by simp only [List.getElem?_toArray, List.getElem?_cons_succ, List.getElem?_cons_zero]; rfl) (by kernel_rfl) (by kernel_rfl) (by kernel_rfl) (fun _ _ _ h => h) (Or.inl ⟨by rfl, ?_⟩) (by assumption) ?_
      rotate_left 1
      · intro w hSw; (try dsimp only at hSw); go_simp; all_goals (with_reducible rfl)
      try simp only [Act.put, List.setIfInBounds_toArray, List.set_cons_zero, List.set_cons_succ]
      refine wpAnyH_take (i := 7) (v := ?_) (by simp only [List.getElem?_toArray, List.getElem?_cons_succ, List.getElem?_cons_zero]; rfl) (by kernel_rfl) (by kernel_rfl) (by kernel_rfl) (fun _ _ _ h => h) (Or.inl ⟨by rfl, ?_⟩) (by assumption) ?_
      rotate_left 1
      · intro w hSw; (try dsimp only at hSw); go_simp; all_goals (with_reducible rfl)
      try simp only [Act.put, List.setIfInBounds_toArray, List.set_cons_zero, List.set_cons_succ]
      refine wpAnyH_take (i := 8) (v := ?_) (by simp only [List.getElem?_toArray, List.getElem?_cons_succ, List.getElem?_cons_zero]; rfl) (by kernel_rfl) (by kernel_rfl) (by kernel_rfl) (fun _ _ _ h => h) (Or.inl ⟨by rfl, ?_⟩) (by assumption) ?_
      rotate_left 1
      · intro w hSw; (try dsimp only at hSw); go_simp; all_goals (with_reducible rfl)
      try simp only [Act.put, List.setIfInBounds_toArray, List.set_cons_zero, List.set_cons_succ]
      refine wpAnyH_take (i := 9) (v := ?_) (by simp only [List.getElem?_toArray, List.getElem?_cons_succ, List.getElem?_cons_zero]; rfl) (by kernel_rfl) (by kernel_rfl) (by kernel_rfl) (fun _ _ _ h => h) (Or.inl ⟨by rfl, ?_⟩) (by assumption) ?_
      rotate_left 1
      · intro w hSw; (try dsimp only at hSw); go_simp; all_goals (with_reducible rfl)
      try simp only [Act.put, List.setIfInBounds_toArray, List.set_cons_zero, List.set_cons_succ]
      refine wpAnyH_take (i := 10) (v := ?_) (by simp only [List.getElem?_toArray, List.getElem?_cons_succ, List.getElem?_cons_zero]; rfl) (by kernel_rfl) (by kernel_rfl) (by kernel_rfl) (fun _ _ _ h => h) (Or.inl ⟨by rfl, ?_⟩) (by assumption) ?_
      rotate_left 1
      · intro w hSw; (try dsimp only at hSw); go_simp; all_goals (with_reducible rfl)
      try simp only [Act.put, List.setIfInBounds_toArray, List.set_cons_zero, List.set_cons_succ]
      refine wpAnyH_done (by kernel_rfl) ?_ _
      refine NoPanic.normal ?_
      clear hne k0 k1 k2 m0 m1 m2 d1 d2
      have HQ2 := Lib.hid (World.grownBy.trans HR.out (drew_new wr))
      have Y1 := Lib.hid (X1.out.new (drew_new wr))
      have Y2 := Lib.hid (X2.out.new (drew_new wr))
      go_wp2_with fail
      go_roundw
      case rel => exact ⟨j + 1, by omega, by go_num, Y1.out, Y2.out, HQ2.out⟩
      case measure => simp [intOf]; omega
    · obtain rfl : j = n := by omega
      clear hlt
      go_wp2_with fail
      go_ret
      exact ⟨rfl, HR.out⟩
end Go.Proofs.Ytpklgcinijlmmaa
namespace Go.Proofs.Ytpklgcinijlmmaa
open Go.RowKit

/-- The sum that jettylaw05.long takes. -/
def eSum (es : List En) (j : Nat) : Nat := ((es.take j).map fun e => 1 + min e.n.length 100000).sum
theorem eSum_succ (es : List En) (j : Nat) (h : j < es.length) : eSum es (j + 1) = eSum es j + (1 + min es[j].n.length 100000) := by
  unfold eSum
  rw [List.take_succ_eq_append_getElem h, List.map_append, List.sum_append]
  simp
theorem eSum_all {es : List En} (h : eSum es es.length < 100000) : es.length ≤ 100000 ∧ (∀ e ∈ es, e.n.length ≤ 100000) ∧ (es.map fun e => e.n.length).sum ≤ 100000 := by
  unfold eSum at h
  rw [List.take_length] at h
  induction es with
  | nil => simp
  | cons e es ih =>
    simp only [List.map_cons, List.sum_cons] at h
    obtain ⟨i1, i2, i3⟩ := ih (by omega)
    have key : ∀ l : List En, l.length ≤ (l.map fun e => 1 + min e.n.length 100000).sum ∧ ((∀ x ∈ l, x.n.length ≤ 100000) → (l.map fun e => e.n.length).sum ≤ (l.map fun e => 1 + min e.n.length 100000).sum) := by
      intro l
      induction l with
      | nil => simp
      | cons x l ihl =>
        refine ⟨by simp only [List.map_cons, List.sum_cons, List.length_cons]; omega, fun hx => ?_⟩
        have h1 := hx x (by simp)
        have h2 := ihl.2 (fun y hy => hx y (by simp [hy]))
        simp only [List.map_cons, List.sum_cons]
        omega
    have k := key es
    have he : e.n.length ≤ 100000 := by omega
    refine ⟨by rw [List.length_cons]; omega, ?_, ?_⟩
    · intro x hx
      rcases List.mem_cons.1 hx with rfl | hx
      · exact he
      · exact i2 x hx
    · have := k.2 i2
      simp only [List.map_cons, List.sum_cons]
      omega
end Go.Proofs.Ytpklgcinijlmmaa
namespace Go.Proofs.Ytpklgcinijlmmaa
open Go.RowKit

def Short (p : PA) (y : PR) : Prop := p.n.length ≤ 10000 ∧ p.o.length ≤ 10000 ∧ p.x.length ≤ 10000 ∧ y.x.length ≤ 10000 ∧ eSum y.es y.es.length < 100000
def SaysLong (p : PA) (y : PR) (w : World) (e : Ending) (w' : World) : Prop := ∃ B : Bool, e = .returned (.bool B) ∧ w.grownBy w' none ∧ (B = false → Short p y)

set_option maxRecDepth 20000 in
set_option maxHeartbeats 4000000 in
theorem long_any (p : PA) (y : PR) (ev : Value) (w : World) (hev : Ents w ev y.es) (hn : p.n.length ≤ maxLen) (ho : p.o.length ≤ maxLen) (hx : p.x.length ≤ maxLen) (hy : y.x.length ≤ maxLen) (hnm : ∀ e ∈ y.es, e.n.length ≤ maxLen) :
    Calls Try.prog 21 #[paV p, .agg (prC y ev)] w (SaysLong p y w) := by
  obtain ⟨ea, ec, rfl, hm⟩ := hev.form
  have HAT := Lib.hid (fun h0 : 0 < y.es.length => hev.at h0)
  have HNM := Lib.hid hnm
  obtain ⟨l, hl⟩ : ∃ l, y.es.length = l := ⟨_, rfl⟩
  have HL := Lib.hid hl
  have HSH : Hid (∀ q, p.n.length ≤ 10000 → p.o.length ≤ 10000 → p.x.length ≤ 10000 → y.x.length ≤ 10000 → q = l → eSum y.es q < 100000 → Short p y) := Lib.hid (fun q a b c d e f => ⟨a, b, c, d, by rw [hl, ← e]; exact f⟩)
  rw [hl] at hm ⊢
  obtain ⟨⟨h1, h2, h3⟩, ⟨t1, t2, t3⟩, n, o, x, a, q, m, s, b, g, v⟩ := p
  unfold paV paC prC txt
  dsimp only at *
  unfold maxLen at hn ho hx hy hm
  obtain ⟨yx, hyx⟩ : ∃ yx, y.x = yx := ⟨_, rfl⟩
  rw [hyx] at hy HSH ⊢
  clear hev hnm hl hyx
  have z1 : (⟨n.toArray⟩ : ByteArray).size = n.length := rfl
  have z2 : (⟨o.toArray⟩ : ByteArray).size = o.length := rfl
  have z3 : (⟨x.toArray⟩ : ByteArray).size = x.length := rfl
  have z4 : (⟨yx.toArray⟩ : ByteArray).size = yx.length := rfl
  go_enter Try.func21, Try.ntmps21
  go_wp2_with fail
  have g1 := World.grownBy_alloc w (.cells #[.int .i64 h1, .int .i64 h2, .int .i64 h3, .int .i64 t1, .int .i64 t2, .int .i64 t3, .string ⟨n.toArray⟩, .string ⟨o.toArray⟩, .string ⟨x.toArray⟩, .int .i64 a, .int .i64 q, .int .i64 m, .int .i64 s, .int .i64 b, .int .i64 g, .int .u64 v] 27) none
  have b1 := Blk.made w 27 #[.int .i64 h1, .int .i64 h2, .int .i64 h3, .int .i64 t1, .int .i64 t2, .int .i64 t3, .string ⟨n.toArray⟩, .string ⟨o.toArray⟩, .string ⟨x.toArray⟩, .int .i64 a, .int .i64 q, .int .i64 m, .int .i64 s, .int .i64 b, .int .i64 g, .int .u64 v]
  have g2 := World.grownBy_alloc (w.alloc (.cells #[.int .i64 h1, .int .i64 h2, .int .i64 h3, .int .i64 t1, .int .i64 t2, .int .i64 t3, .string ⟨n.toArray⟩, .string ⟨o.toArray⟩, .string ⟨x.toArray⟩, .int .i64 a, .int .i64 q, .int .i64 m, .int .i64 s, .int .i64 b, .int .i64 g, .int .u64 v] 27)) (.cells #[.int .i64 y.e, .int .i64 y.h.s, .int .i64 y.h.i, .int .i64 y.h.g, .int .u8 y.a.k, .int .i64 y.a.m, .int .i64 y.a.l, .int .i64 y.a.s, .int .i64 y.a.mt, .int .i64 y.a.ct, .int .i64 y.a.i, .int .i64 y.a.g, .string ⟨yx.toArray⟩, .int .i64 y.n, .int .i64 y.f, .int .u64 y.u, .bool y.d, .slice ea l ec, .int .u64 y.v] 42) none
  have b2 := Blk.made (w.alloc (.cells #[.int .i64 h1, .int .i64 h2, .int .i64 h3, .int .i64 t1, .int .i64 t2, .int .i64 t3, .string ⟨n.toArray⟩, .string ⟨o.toArray⟩, .string ⟨x.toArray⟩, .int .i64 a, .int .i64 q, .int .i64 m, .int .i64 s, .int .i64 b, .int .i64 g, .int .u64 v] 27)) 42 #[.int .i64 y.e, .int .i64 y.h.s, .int .i64 y.h.i, .int .i64 y.h.g, .int .u8 y.a.k, .int .i64 y.a.m, .int .i64 y.a.l, .int .i64 y.a.s, .int .i64 y.a.mt, .int .i64 y.a.ct, .int .i64 y.a.i, .int .i64 y.a.g, .string ⟨yx.toArray⟩, .int .i64 y.n, .int .i64 y.f, .int .u64 y.u, .bool y.d, .slice ea l ec, .int .u64 y.v]
  have hs : (w.alloc (.cells #[.int .i64 h1, .int .i64 h2, .int .i64 h3, .int .i64 t1, .int .i64 t2, .int .i64 t3, .string ⟨n.toArray⟩, .string ⟨o.toArray⟩, .string ⟨x.toArray⟩, .int .i64 a, .int .i64 q, .int .i64 m, .int .i64 s, .int .i64 b, .int .i64 g, .int .u64 v] 27)).heap.size = w.heap.size + 1 := by simp
  rw [hs] at b2
  have b1 := b1.new g2
  have hg := World.grownBy.trans g1 g2
  clear g1 g2 hs
  generalize (w.alloc (.cells #[.int .i64 h1, .int .i64 h2, .int .i64 h3, .int .i64 t1, .int .i64 t2, .int .i64 t3, .string ⟨n.toArray⟩, .string ⟨o.toArray⟩, .string ⟨x.toArray⟩, .int .i64 a, .int .i64 q, .int .i64 m, .int .i64 s, .int .i64 b, .int .i64 g, .int .u64 v] 27)).alloc (.cells #[.int .i64 y.e, .int .i64 y.h.s, .int .i64 y.h.i, .int .i64 y.h.g, .int .u8 y.a.k, .int .i64 y.a.m, .int .i64 y.a.l, .int .i64 y.a.s, .int .i64 y.a.mt, .int .i64 y.a.ct, .int .i64 y.a.i, .int .i64 y.a.g, .string ⟨yx.toArray⟩, .int .i64 y.n, .int .i64 y.f, .int .u64 y.u, .bool y.d, .slice ea l ec, .int .u64 y.v] 42) = w2 at *
  have HG := Lib.hid hg
  have c6 := b1.cell (i := 6) (x := .string ⟨n.toArray⟩) rfl
  have c7 := b1.cell (i := 7) (x := .string ⟨o.toArray⟩) rfl
  have c8 := b1.cell (i := 8) (x := .string ⟨x.toArray⟩) rfl
  have d12 := b2.cell (i := 12) (x := .string ⟨yx.toArray⟩) rfl
  have d17 := b2.cell (i := 17) (x := .slice ea l ec) rfl
  clear hg b1 b2
  go_loop [5, 6] (fun u i => ∃ j : Nat, j ≤ l ∧ i = .int .i64 j ∧ u = .int .i64 (eSum y.es j) ∧ eSum y.es j ≤ 300000) (fun _ i => l - (intOf i).toNat)
  case atStart => exact ⟨0, Nat.zero_le _, rfl, rfl, by simp [eSum]⟩
  case round =>
    obtain ⟨j, hj, rfl, rfl, hsm⟩ := hrel
    have hsmi : (eSum y.es j : Int) ≤ 300000 := by omega
    by_cases hlt : j < l
    · have hlt1 : j < y.es.length := by have := HL.out; omega
      have hjn : (j : Int) < l := by omega
      obtain ⟨bb, oo, rfl, hat⟩ := HAT.out (by omega)
      obtain ⟨k0, _, _⟩ := hat j hlt1
      have hgd : y.es.getD j ⟨[], 0, 0⟩ = y.es[j] := by simp [List.getD, hlt1]
      rw [hgd] at k0
      have k0 := HG.out.cell k0 (by simp)
      have hS := eSum_succ y.es j hlt1
      have hnj := HNM.out _ (List.getElem_mem hlt1)
      generalize y.es[j].n = nm at *
      unfold txt at k0
      unfold maxLen at hnj
      have HS := Lib.hid hS
      clear hS hat hgd
      by_cases hq : eSum y.es j < 100000
      · generalize hE : eSum y.es j = E at *
        have hqi : (E : Int) < 100000 := by omega
        by_cases hmn : nm.length < 100000
        · have hmi : (nm.length : Int) < 100000 := by omega
          clear c6 c7 c8 d12
          go_wp2_with fail
          go_round
          case rel => exact ⟨j + 1, by omega, by go_num, by rw [HS.out, Nat.min_eq_left (by omega)]; go_num, by rw [HS.out]; omega⟩
          case measure => simp [intOf]; omega
        · have hmi : ¬ (nm.length : Int) < 100000 := by omega
          clear c6 c7 c8 d12
          go_wp2_with fail
          go_round
          case rel => exact ⟨j + 1, by omega, by go_num, by rw [HS.out, Nat.min_eq_right (by omega)]; go_num, by rw [HS.out]; omega⟩
          case measure => simp [intOf]; omega
      · have hqi : decide ((eSum y.es j : Int) < 100000) = false := decide_eq_false (by omega)
        have HF := Lib.hid (show (100000 : Int) ≤ (eSum y.es j : Int) by omega)
        have hjd : decide ((j : Int) < l) = true := decide_eq_true hjn
        clear k0 HS hjn hsmi hsm hq
        generalize (eSum y.es j : Int) = M at *
        go_wp2_with fail
        all_goals
          go_ret
          refine ⟨_, rfl, HG.out, fun h => ?_⟩
          first
            | exact absurd h (by decide)
            | (rw [decide_eq_true HF.out, Bool.or_true] at h; exact absurd h (by decide))
    · obtain rfl : j = l := by omega
      have HF := Lib.hid (HSH.out j)
      obtain ⟨M, hM⟩ : ∃ M : Int, (eSum y.es j : Int) = M := ⟨_, rfl⟩
      have HM := Lib.hid hM
      rw [hM]
      have hjd : decide ((j : Int) < j) = false := decide_eq_false (by omega)
      clear hlt hM hsm hsmi
      go_wp2_with fail
      all_goals
        go_ret
        refine ⟨_, rfl, HG.out, fun h => ?_⟩
        first
          | exact absurd h (by decide)
          | (simp only [Bool.or_eq_false_iff, decide_eq_false_iff_not] at h
             obtain ⟨⟨⟨⟨h1, h2⟩, h3⟩, h4⟩, h5⟩ := h
             exact HF.out (by omega) (by omega) (by omega) (by omega) trivial (by have := HM.out; omega))
end Go.Proofs.Ytpklgcinijlmmaa
namespace Go.Proofs.Ytpklgcinijlmmaa
open Go.RowKit

def h7 : Hn := ⟨0, 7, 0⟩
def wp1 : PA := { noPA with h := h7 }
def wp2 : PA := { noPA with h := h7, a := 5, c := 9 }
def wp3 : PA := { noPA with h := h7, a := 1 }
def wb : List UInt8 := hB fnv h7
def wq : List UInt8 := wb ++ [0, 0, 0, 0, 0, 0, 0, 5, 0, 0, 0, 0, 0, 0, 0, 9]
theorem we_1 : aWrite 1 wp1 = (wb, 0) := by kernel_rfl
theorem we_2 : aWrite 5 wp2 = (wq, 0) := by kernel_rfl
theorem we_3 : aWrite 3 wp3 = ([], 4) := by kernel_rfl
theorem we_4 : ((cHear 1 [0, 0, 0, 54]).1.e, (cHear 1 [0, 0, 0, 54]).2) = (54, 0) := by kernel_rfl
theorem we_5 : (cHear 1 [0, 0, 0, 0]).2 = 4 := by kernel_rfl
theorem we_6 : hEnc fnv h7 = (wb, 0) := by kernel_rfl
theorem we_7 : wb.length = 24 := by kernel_rfl
set_option maxRecDepth 20000 in
theorem h_7 (w : World) : Calls Try.prog 8 #[.int .i64 7] w fun e w' => e = .returned (.agg #[.int .i64 0, .int .i64 7, .int .i64 0]) ∧ w.grownBy w' none := by
  go_enter Try.func8, Try.ntmps8
  go_wp2_with fail
  exact bodyPost_ret (v := .agg #[.int .i64 0, .int .i64 7, .int .i64 0]) (by simp [results, Try.results8, go_sem]) rfl ⟨rfl, World.grownBy_alloc _ _ _⟩
set_option maxRecDepth 20000 in
theorem bytes_7 (w : World) : Calls Try.prog 13 #[.agg #[.int .i64 0, .int .i64 7, .int .i64 0]] w fun e w' => e = .returned (.string ⟨wb.toArray⟩) ∧ w.grownBy w' none := by
  have HE := Lib.hid (fun w => Enc_any h7 w)
  rw [we_6] at HE
  unfold TE txt at HE
  unfold hnV h7 at HE
  dsimp only at HE
  generalize wb = b at *
  go_enter Try.func13, Try.ntmps13
  go_wp2_with fail
  refine (HE.out _).mono ?_; rintro e w2 ⟨rfl, g⟩
  go_wp2_with fail
  go_ret
  exact ⟨rfl, World.grownBy.trans (World.grownBy_alloc _ _ _) g⟩

theorem str_cat (a b : List UInt8) : ((⟨a.toArray⟩ : ByteArray) ++ (⟨b.toArray⟩ : ByteArray)) = ⟨(a ++ b).toArray⟩ := by
  apply ByteArray.ext
  simp

set_option maxRecDepth 20000 in
set_option maxHeartbeats 4000000 in
theorem works_any (w : World) : Calls Try.prog 7 #[] w fun e w' => e = .returned (.bool true) ∧ w.grownBy w' none := by
  have H1 : Hid (∀ w, Calls Try.prog 10 #[.int .i64 1, .agg #[.int .i64 0, .int .i64 7, .int .i64 0, .int .i64 0, .int .i64 0, .int .i64 0, .string ⟨#[]⟩, .string ⟨#[]⟩, .string ⟨#[]⟩, .int .i64 0, .int .i64 0, .int .i64 0, .int .i64 0, .int .i64 0, .int .i64 0, .int .u64 0]] w fun e w' => e = .returned (.tuple #[.string ⟨wb.toArray⟩, .int .i64 0]) ∧ w.grownBy w' none) := Lib.hid (fun w => by
    have h := Write_any 1 wp1 w ⟨⟨by decide, by decide⟩, ⟨by decide, by decide⟩, ⟨by decide, by decide⟩, ⟨by decide, by decide⟩, ⟨by decide, by decide⟩, ⟨by decide, by decide⟩, ⟨by decide, by decide⟩⟩ (by decide) (by decide) (by decide)
    rw [we_1] at h
    exact h)
  have H2 : Hid (∀ w, Calls Try.prog 10 #[.int .i64 5, .agg #[.int .i64 0, .int .i64 7, .int .i64 0, .int .i64 0, .int .i64 0, .int .i64 0, .string ⟨#[]⟩, .string ⟨#[]⟩, .string ⟨#[]⟩, .int .i64 5, .int .i64 9, .int .i64 0, .int .i64 0, .int .i64 0, .int .i64 0, .int .u64 0]] w fun e w' => e = .returned (.tuple #[.string ⟨wq.toArray⟩, .int .i64 0]) ∧ w.grownBy w' none) := Lib.hid (fun w => by
    have h := Write_any 5 wp2 w ⟨⟨by decide, by decide⟩, ⟨by decide, by decide⟩, ⟨by decide, by decide⟩, ⟨by decide, by decide⟩, ⟨by decide, by decide⟩, ⟨by decide, by decide⟩, ⟨by decide, by decide⟩⟩ (by decide) (by decide) (by decide)
    rw [we_2] at h
    exact h)
  have H3 : Hid (∀ w, Calls Try.prog 10 #[.int .i64 3, .agg #[.int .i64 0, .int .i64 7, .int .i64 0, .int .i64 0, .int .i64 0, .int .i64 0, .string ⟨#[]⟩, .string ⟨#[]⟩, .string ⟨#[]⟩, .int .i64 1, .int .i64 0, .int .i64 0, .int .i64 0, .int .i64 0, .int .i64 0, .int .u64 0]] w fun e w' => e = .returned (.tuple #[.string ⟨#[]⟩, .int .i64 4]) ∧ w.grownBy w' none) := Lib.hid (fun w => by
    have h := Write_any 3 wp3 w ⟨⟨by decide, by decide⟩, ⟨by decide, by decide⟩, ⟨by decide, by decide⟩, ⟨by decide, by decide⟩, ⟨by decide, by decide⟩, ⟨by decide, by decide⟩, ⟨by decide, by decide⟩⟩ (by decide) (by decide) (by decide)
    rw [we_3] at h
    exact h)
  have H4 : Hid (∃ y : PR, y.e = 54 ∧ ∀ w, Calls Try.prog 17 #[.int .i64 1, .string ⟨#[0, 0, 0, 54]⟩] w (RT w (y, 0))) := Lib.hid (by
    have h := we_4
    simp only [Prod.mk.injEq] at h
    refine ⟨(cHear 1 [0, 0, 0, 54]).1, h.1, fun w => ?_⟩
    have h2 := Hear_any 1 [0, 0, 0, 54] w (by decide)
    rw [← Prod.eta (cHear 1 [0, 0, 0, 54]), h.2] at h2
    exact h2)
  have H5 : Hid (∃ y : PR, ∀ w, Calls Try.prog 17 #[.int .i64 1, .string ⟨#[0, 0, 0, 0]⟩] w (RT w (y, 4))) := Lib.hid (by
    refine ⟨(cHear 1 [0, 0, 0, 0]).1, fun w => ?_⟩
    have h2 := Hear_any 1 [0, 0, 0, 0] w (by decide)
    rw [← Prod.eta (cHear 1 [0, 0, 0, 0]), we_5] at h2
    exact h2)
  have HC1 : Hid (∀ w, Calls Try.prog 20 #[.int .i64 6, .agg #[.int .i64 0, .int .i64 0, .int .i64 0, .int .i64 0, .int .i64 0, .int .i64 0, .string ⟨#[]⟩, .string ⟨#[]⟩, .string ⟨#[]⟩, .int .i64 0, .int .i64 0, .int .i64 0, .int .i64 0, .int .i64 0, .int .i64 0, .int .u64 0]] w fun e w' => e = .returned (.bool false) ∧ w.grownBy w' none) := Lib.hid (fun w => Changes_any 6 noPA w)
  have HC2 : Hid (∀ w, Calls Try.prog 20 #[.int .i64 6, .agg #[.int .i64 0, .int .i64 0, .int .i64 0, .int .i64 0, .int .i64 0, .int .i64 0, .string ⟨#[]⟩, .string ⟨#[]⟩, .string ⟨#[]⟩, .int .i64 0, .int .i64 0, .int .i64 0, .int .i64 0, .int .i64 1, .int .i64 0, .int .u64 0]] w fun e w' => e = .returned (.bool true) ∧ w.grownBy w' none) := Lib.hid (fun w => Changes_any 6 { noPA with b := 1 } w)
  have HH := Lib.hid (fun w => h_7 w)
  have HB := Lib.hid (fun w => bytes_7 w)
  have HL : Hid ((⟨wb.toArray⟩ : ByteArray).size = 24) := Lib.hid we_7
  have HQ : Hid ((⟨wb.toArray⟩ : ByteArray) ++ (⟨#[0, 0, 0, 0, 0, 0, 0, 5, 0, 0, 0, 0, 0, 0, 0, 9]⟩ : ByteArray) = ⟨wq.toArray⟩) := Lib.hid (str_cat wb [0, 0, 0, 0, 0, 0, 0, 5, 0, 0, 0, 0, 0, 0, 0, 9])
  generalize (⟨wb.toArray⟩ : ByteArray) = sb at *
  generalize (⟨wq.toArray⟩ : ByteArray) = sq at *
  obtain ⟨y4, he4, H4⟩ := H4.out
  obtain ⟨y5, H5⟩ := H5.out
  have HE4 := Lib.hid he4
  have H4 := Lib.hid H4
  have H5 := Lib.hid H5
  clear he4
  go_enter Try.func7, Try.ntmps7
  go_wp2_with fail
  refine (HH.out _).mono ?_; rintro e w1 ⟨rfl, hg⟩
  have HG := Lib.hid hg
  clear hg
  go_wp2_with fail
  refine (H1.out _).mono ?_; rintro e w2 ⟨rfl, g⟩
  replace HG := Lib.hid (World.grownBy.trans HG.out g)
  clear g
  go_wp2_with fail
  refine (HH.out _).mono ?_; rintro e w3 ⟨rfl, g⟩
  replace HG := Lib.hid (World.grownBy.trans HG.out g)
  clear g
  go_wp2_with fail
  refine (H2.out _).mono ?_; rintro e w4 ⟨rfl, g⟩
  replace HG := Lib.hid (World.grownBy.trans HG.out g)
  clear g
  go_wp2_with fail
  refine (HH.out _).mono ?_; rintro e w5 ⟨rfl, g⟩
  replace HG := Lib.hid (World.grownBy.trans HG.out g)
  clear g
  go_wp2_with fail
  refine (H3.out _).mono ?_; rintro e w6 ⟨rfl, g⟩
  replace HG := Lib.hid (World.grownBy.trans HG.out g)
  clear g
  go_wp2_with fail
  refine (H4.out _).mono ?_; rintro e w7 ⟨ev4, rfl, hent, g, _⟩
  replace HG := Lib.hid (World.grownBy.trans HG.out g)
  obtain ⟨ea, ec, rfl, _⟩ := hent.form
  clear g hent
  have ga := World.grownBy_alloc w7 (.cells #[.int .i64 0, .int .i64 0, .int .i64 0, .int .i64 0, .int .u8 0, .int .i64 0, .int .i64 0, .int .i64 0, .int .i64 0, .int .i64 0, .int .i64 0, .int .i64 0, .string ⟨#[]⟩, .int .i64 0, .int .i64 0, .int .u64 0, .bool false, .slice none 0 0, .int .u64 0] 42) none
  have g5 := setRow_grown (w7.alloc (.cells #[.int .i64 0, .int .i64 0, .int .i64 0, .int .i64 0, .int .u8 0, .int .i64 0, .int .i64 0, .int .i64 0, .int .i64 0, .int .i64 0, .int .i64 0, .int .i64 0, .string ⟨#[]⟩, .int .i64 0, .int .i64 0, .int .u64 0, .bool false, .slice none 0 0, .int .u64 0] 42)) w7.heap.size (prC y4 (.slice ea y4.es.length ec))
  have HM7 := Lib.hid ((Blk.made w7 42 #[.int .i64 0, .int .i64 0, .int .i64 0, .int .i64 0, .int .u8 0, .int .i64 0, .int .i64 0, .int .i64 0, .int .i64 0, .int .i64 0, .int .i64 0, .int .i64 0, .string ⟨#[]⟩, .int .i64 0, .int .i64 0, .int .u64 0, .bool false, .slice none 0 0, .int .u64 0]).row (prC y4 (.slice ea y4.es.length ec)))
  replace HG := Lib.hid (grown_own (World.grownBy.trans HG.out ga) g5 (fun n hn => by cases hn; have := HG.out.size; omega))
  clear ga g5
  go_upto_region 5 with (refine wpList_store_row rfl 42 (.tmp 7) (.tmp 31) rfl w7.heap.size (prC y4 (.slice ea y4.es.length ec)) rfl rfl 42 #[.int .i64 0, .int .i64 0, .int .i64 0, .int .i64 0, .int .u8 0, .int .i64 0, .int .i64 0, .int .i64 0, .int .i64 0, .int .i64 0, .int .i64 0, .int .i64 0, .string ⟨#[]⟩, .int .i64 0, .int .i64 0, .int .u64 0, .bool false, .slice none 0 0, .int .u64 0] (Blk.made w7 42 #[.int .i64 0, .int .i64 0, .int .i64 0, .int .i64 0, .int .u8 0, .int .i64 0, .int .i64 0, .int .i64 0, .int .i64 0, .int .i64 0, .int .i64 0, .int .i64 0, .string ⟨#[]⟩, .int .i64 0, .int .i64 0, .int .u64 0, .bool false, .slice none 0 0, .int .u64 0]) (by kernel_rfl) (by kernel_rfl) (by kernel_rfl) ?_; (try go_simp))
  generalize (w7.alloc (.cells #[.int .i64 0, .int .i64 0, .int .i64 0, .int .i64 0, .int .u8 0, .int .i64 0, .int .i64 0, .int .i64 0, .int .i64 0, .int .i64 0, .int .i64 0, .int .i64 0, .string ⟨#[]⟩, .int .i64 0, .int .i64 0, .int .u64 0, .bool false, .slice none 0 0, .int .u64 0] 42)).setRow w7.heap.size (prC y4 (.slice ea y4.es.length ec)) = v7 at *
  generalize w7.heap.size = M7 at *
  go_wp2_with fail
  refine (H5.out _).mono ?_; rintro e w8 ⟨ev5, rfl, hent, g, _⟩
  replace HM7 := Lib.hid (HM7.out.new g)
  replace HG := Lib.hid (World.grownBy.trans HG.out g)
  obtain ⟨eb, ed, rfl, _⟩ := hent.form
  clear g hent
  have ga := World.grownBy_alloc w8 (.cells #[.int .i64 0, .int .i64 0, .int .i64 0, .int .i64 0, .int .u8 0, .int .i64 0, .int .i64 0, .int .i64 0, .int .i64 0, .int .i64 0, .int .i64 0, .int .i64 0, .string ⟨#[]⟩, .int .i64 0, .int .i64 0, .int .u64 0, .bool false, .slice none 0 0, .int .u64 0] 42) none
  have g5 := setRow_grown (w8.alloc (.cells #[.int .i64 0, .int .i64 0, .int .i64 0, .int .i64 0, .int .u8 0, .int .i64 0, .int .i64 0, .int .i64 0, .int .i64 0, .int .i64 0, .int .i64 0, .int .i64 0, .string ⟨#[]⟩, .int .i64 0, .int .i64 0, .int .u64 0, .bool false, .slice none 0 0, .int .u64 0] 42)) w8.heap.size (prC y5 (.slice eb y5.es.length ed))
  have HM8 := Lib.hid ((Blk.made w8 42 #[.int .i64 0, .int .i64 0, .int .i64 0, .int .i64 0, .int .u8 0, .int .i64 0, .int .i64 0, .int .i64 0, .int .i64 0, .int .i64 0, .int .i64 0, .int .i64 0, .string ⟨#[]⟩, .int .i64 0, .int .i64 0, .int .u64 0, .bool false, .slice none 0 0, .int .u64 0]).row (prC y5 (.slice eb y5.es.length ed)))
  replace HM7 := Lib.hid ((HM7.out.new ga).kept g5 (by have := HM7.out.lt; simp; omega))
  replace HG := Lib.hid (grown_own (World.grownBy.trans HG.out ga) g5 (fun n hn => by cases hn; have := HG.out.size; omega))
  clear ga g5
  go_upto_region 6 with (refine wpList_store_row rfl 42 (.tmp 9) (.tmp 35) rfl w8.heap.size (prC y5 (.slice eb y5.es.length ed)) rfl rfl 42 #[.int .i64 0, .int .i64 0, .int .i64 0, .int .i64 0, .int .u8 0, .int .i64 0, .int .i64 0, .int .i64 0, .int .i64 0, .int .i64 0, .int .i64 0, .int .i64 0, .string ⟨#[]⟩, .int .i64 0, .int .i64 0, .int .u64 0, .bool false, .slice none 0 0, .int .u64 0] (Blk.made w8 42 #[.int .i64 0, .int .i64 0, .int .i64 0, .int .i64 0, .int .u8 0, .int .i64 0, .int .i64 0, .int .i64 0, .int .i64 0, .int .i64 0, .int .i64 0, .int .i64 0, .string ⟨#[]⟩, .int .i64 0, .int .i64 0, .int .u64 0, .bool false, .slice none 0 0, .int .u64 0]) (by kernel_rfl) (by kernel_rfl) (by kernel_rfl) ?_; (try go_simp))
  generalize (w8.alloc (.cells #[.int .i64 0, .int .i64 0, .int .i64 0, .int .i64 0, .int .u8 0, .int .i64 0, .int .i64 0, .int .i64 0, .int .i64 0, .int .i64 0, .int .i64 0, .int .i64 0, .string ⟨#[]⟩, .int .i64 0, .int .i64 0, .int .u64 0, .bool false, .slice none 0 0, .int .u64 0] 42)).setRow w8.heap.size (prC y5 (.slice eb y5.es.length ed)) = v8 at *
  generalize w8.heap.size = M8 at *
  have hl := HL.out
  have hq := HQ.out
  go_wp2_with fail
  refine (HH.out _).mono ?_; rintro e w9 ⟨rfl, g⟩
  replace HM7 := Lib.hid (HM7.out.new g)
  replace HG := Lib.hid (World.grownBy.trans HG.out g)
  clear g
  go_wp2_with fail
  refine (HB.out _).mono ?_; rintro e w10 ⟨rfl, g⟩
  replace HM7 := Lib.hid (HM7.out.new g)
  replace HG := Lib.hid (World.grownBy.trans HG.out g)
  clear g
  go_wp2_with fail
  refine (HH.out _).mono ?_; rintro e w11 ⟨rfl, g⟩
  replace HM7 := Lib.hid (HM7.out.new g)
  replace HG := Lib.hid (World.grownBy.trans HG.out g)
  clear g
  go_wp2_with fail
  refine (HB.out _).mono ?_; rintro e w12 ⟨rfl, g⟩
  replace HM7 := Lib.hid (HM7.out.new g)
  replace HG := Lib.hid (World.grownBy.trans HG.out g)
  clear g
  have c0 := HM7.out.cell (i := 0) (x := .int .i64 54) (by rw [← HE4.out]; rfl)
  go_wp2_with fail
  refine (HC1.out _).mono ?_; rintro e w13 ⟨rfl, g⟩
  replace HM7 := Lib.hid (HM7.out.new g)
  replace HG := Lib.hid (World.grownBy.trans HG.out g)
  clear g
  go_wp2_with fail
  refine (HC2.out _).mono ?_; rintro e w14 ⟨rfl, g⟩
  replace HM7 := Lib.hid (HM7.out.new g)
  replace HG := Lib.hid (World.grownBy.trans HG.out g)
  clear g
  go_wp2_with fail
  go_ret
  exact ⟨rfl, HG.out⟩
end Go.Proofs.Ytpklgcinijlmmaa
namespace Go.Proofs.Ytpklgcinijlmmaa
open Go.RowKit

section
variable {H : Type} {enc : TypeId × Value → H}
open Go.ChangeShapes Go.WideShapes Go.ChangeAt Go.Deep

theorem cells_res : Try.prog.cellsOf 42 = 19 := by kernel_rfl
theorem cells_att : Try.prog.cellsOf 39 = 8 := by kernel_rfl
theorem cells_ent : Try.prog.cellsOf 44 = 3 := by kernel_rfl
theorem cells_ens : Try.prog.cellsOf 40 = 1 := by kernel_rfl
theorem cells_u8 : Try.prog.cellsOf 5 = 1 := by kernel_rfl
theorem cells_boo : Try.prog.cellsOf 4 = 1 := by kernel_rfl
theorem cells_eno : Try.prog.cellsOf 28 = 1 := by kernel_rfl

theorem ent_of {W : World} {n : Nat} {cs : List Value} {y : DataW H × List MemPlace} (hcs : cs.length = 3) (h : DataW.trod enc Try.prog W 0 (fun _ => true) true n 44 cs = some y) : ∃ e : En, cs = [txt e.n, .int .i64 e.i, .int .i64 e.c] ∧ e.n.length ≤ maxLen := by
  match cs, hcs with
  | [x0, x1, x2], _ =>
    obtain ⟨xs, m, _, _, _, hlen, hg⟩ := DataW.trod_struct Try.underlying44 h
    match xs, hlen with
    | [z0, z1, z2], _ =>
      have g0 := hg 0 _ rfl
      have g1 := hg 1 _ rfl
      have g2 := hg 2 _ rfl
      simp [cells_int, cells_str] at g0 g1 g2
      obtain ⟨s, e0, _, w0⟩ := DataW.trod_string Try.underlying9 g0
      obtain ⟨b, e1, _, _⟩ := DataW.trod_int Try.underlying3 g1
      obtain ⟨c, e2, _, _⟩ := DataW.trod_int Try.underlying3 g2
      simp at e0 e1 e2
      subst e0 e1 e2
      exact ⟨⟨s.data.toList, b, c⟩, by unfold txt; rfl, by simpa using w0⟩

theorem ents_of {W : World} {n : Nat} {v : Value} {y : DataW H × List MemPlace} (h : DataW.trod enc Try.prog W 0 (fun _ => true) true n 40 [v] = some y) : ∃ es : List En, Ents W v es ∧ (∀ e ∈ es, e.n.length ≤ maxLen) := by
  rcases open_slice Try.underlying40 h with ⟨hcs, _⟩ | ⟨a, len, cap, m, n', D, Pl, hcs, hb, hl, hm, hmm, hx, hi⟩
  · simp at hcs
    subst hcs
    exact ⟨[], .inl ⟨rfl, rfl⟩, by simp⟩
  · simp at hcs
    subst hcs
    simp only [if_true] at hmm
    have key : ∀ i, ∃ e : En, i < cap → (W.cell? (a.add (i * 3)) = some (txt e.n) ∧ W.cell? ((a.add (i * 3)).add 1) = some (.int .i64 e.i) ∧ W.cell? ((a.add (i * 3)).add 2) = some (.int .i64 e.c)) ∧ e.n.length ≤ maxLen := by
      intro i
      by_cases hlt : i < cap
      · obtain ⟨cs', hc, ht'⟩ := hi i (by omega)
        rw [cells_ent] at hc
        obtain ⟨_, hcl, hat⟩ := World.cells?_some hc
        obtain ⟨e, rfl, he⟩ := ent_of hcl ht'
        refine ⟨e, fun _ => ⟨⟨?_, ?_, ?_⟩, he⟩⟩
        · have := hat 0 (by omega)
          simpa [add_add] using this
        · have := hat 1 (by omega)
          simpa using this
        · have := hat 2 (by omega)
          simpa using this
      · exact ⟨⟨[], 0, 0⟩, fun h => absurd h hlt⟩
    obtain ⟨F, hF⟩ := Classical.axiomOfChoice key
    refine ⟨(List.range len).map F, ?_, ?_⟩
    · by_cases h0 : cap = 0
      · obtain rfl : cap = 0 := h0
        obtain rfl : len = 0 := by omega
        exact .inr (.inr ⟨a, rfl, by simp⟩)
      · obtain ⟨ab, ao, spot⟩ := a
        have hspot : spot = none := by simpa [Addr.add] using World.cell?_spot ((hF 0 (by omega)).1.1)
        subst hspot
        refine .inr (.inl ⟨ab, ao, cap, by simp, by simpa using hl, hm, fun i hi2 => ?_⟩)
        simp only [List.length_map, List.length_range] at hi2
        have hq : i / 3 < len := by omega
        obtain ⟨⟨k0, k1, k2⟩, _⟩ := hF (i / 3) (by omega)
        simp only [add_off] at k0 k1 k2
        have hgd : ((List.range len).map F).getD (i / 3) ⟨[], 0, 0⟩ = F (i / 3) := by simp [List.getD, hq]
        unfold enAt
        rw [hgd]
        by_cases r0 : i % 3 = 0
        · rw [if_pos r0, ← k0]
          congr 2
          omega
        · rw [if_neg r0]
          by_cases r1 : i % 3 = 1
          · rw [if_pos r1, ← k1]
            congr 2
            omega
          · rw [if_neg r1, ← k2]
            congr 2
            omega
    · intro e he
      obtain ⟨i, hi3, rfl⟩ := List.mem_map.1 he
      exact (hF i (by have := List.mem_range.1 hi3; omega)).2

theorem u8_of {a : Int} (h : (Lit.int .u8 a).wf = true) : 0 ≤ a ∧ a < 256 := by
  simp [Lit.wf, IntKind.min, IntKind.max, IntKind.signed, IntKind.bits] at h
  omega

theorem at_of {W : World} {n : Nat} {cs : List Value} {y : DataW H × List MemPlace} (hcs : cs.length = 8) (h : DataW.trod enc Try.prog W 0 (fun _ => true) true n 39 cs = some y) : ∃ a : At, cs = [.int .u8 a.k, .int .i64 a.m, .int .i64 a.l, .int .i64 a.s, .int .i64 a.mt, .int .i64 a.ct, .int .i64 a.i, .int .i64 a.g] ∧ 0 ≤ a.k ∧ a.k < 256 := by
  match cs, hcs with
  | [x0, x1, x2, x3, x4, x5, x6, x7], _ =>
    obtain ⟨xs, m, _, _, _, hlen, hg⟩ := DataW.trod_struct Try.underlying39 h
    match xs, hlen with
    | [z0, z1, z2, z3, z4, z5, z6, z7], _ =>
      have g0 := hg 0 _ rfl
      have g1 := hg 1 _ rfl
      have g2 := hg 2 _ rfl
      have g3 := hg 3 _ rfl
      have g4 := hg 4 _ rfl
      have g5 := hg 5 _ rfl
      have g6 := hg 6 _ rfl
      have g7 := hg 7 _ rfl
      simp [cells_int, cells_u8] at g0 g1 g2 g3 g4 g5 g6 g7
      obtain ⟨a0, e0, _, w0⟩ := DataW.trod_int Try.underlying5 g0
      obtain ⟨a1, e1, _, _⟩ := DataW.trod_int Try.underlying3 g1
      obtain ⟨a2, e2, _, _⟩ := DataW.trod_int Try.underlying3 g2
      obtain ⟨a3, e3, _, _⟩ := DataW.trod_int Try.underlying3 g3
      obtain ⟨a4, e4, _, _⟩ := DataW.trod_int Try.underlying3 g4
      obtain ⟨a5, e5, _, _⟩ := DataW.trod_int Try.underlying3 g5
      obtain ⟨a6, e6, _, _⟩ := DataW.trod_int Try.underlying3 g6
      obtain ⟨a7, e7, _, _⟩ := DataW.trod_int Try.underlying3 g7
      simp at e0 e1 e2 e3 e4 e5 e6 e7
      subst e0 e1 e2 e3 e4 e5 e6 e7
      exact ⟨⟨a0, a1, a2, a3, a4, a5, a6, a7⟩, rfl, u8_of w0⟩

/-- A result that came in. -/
def PRin (W : World) (v : Value) : Prop := ∃ (p : PR) (ev : Value), v = .agg (prC p ev) ∧ Ents W ev p.es ∧ (0 ≤ p.a.k ∧ p.a.k < 256) ∧ (0 ≤ p.u ∧ p.u < 18446744073709551616) ∧ (0 ≤ p.v ∧ p.v < 18446744073709551616) ∧ p.x.length ≤ maxLen ∧ ∀ e ∈ p.es, e.n.length ≤ maxLen

set_option maxRecDepth 20000 in
set_option maxHeartbeats 2000000 in
theorem open_result {W : World} {base : Nat} {v : Value} {d : DataW H} {p : List MemPlace} (hval : Value.okWide Try.prog W .any base 42 v) (h : DataW.Trod enc Try.prog W 0 (fun _ => true) true 42 v d p) : PRin W v := by
  obtain ⟨cs, rfl, hcs⟩ := okWide_struct Try.underlying42 hval
  rw [cells_res] at hcs
  obtain ⟨fuel, hf⟩ := h
  obtain ⟨l⟩ := cs
  match l, hcs with
  | [x0, x1, x2, x3, x4, x5, x6, x7, x8, x9, x10, x11, x12, x13, x14, x15, x16, x17, x18], _ =>
    obtain ⟨xs, n, _, hx, _, hlen, hg⟩ := DataW.trod_struct Try.underlying42 hf
    match xs, hlen with
    | [y0, y1, y2, y3, y4, y5, y6, y7, y8, y9], _ =>
      have g0 := hg 0 _ rfl
      have g1 := hg 1 _ rfl
      have g2 := hg 2 _ rfl
      have g3 := hg 3 _ rfl
      have g4 := hg 4 _ rfl
      have g5 := hg 5 _ rfl
      have g6 := hg 6 _ rfl
      have g7 := hg 7 _ rfl
      have g8 := hg 8 _ rfl
      have g9 := hg 9 _ rfl
      simp [Value.cells, cells_hn, cells_att, cells_eno, cells_int, cells_str, cells_u64, cells_boo, cells_ens] at g0 g1 g2 g3 g4 g5 g6 g7 g8 g9
      obtain ⟨a0, e0, _, _⟩ := DataW.trod_int Try.underlying28 g0
      obtain ⟨h1, h2, h3, rfl, rfl, rfl⟩ := hn_of g1
      obtain ⟨at1, eat, wat⟩ := at_of rfl g2
      obtain ⟨s3, e3, _, w3⟩ := DataW.trod_string Try.underlying9 g3
      obtain ⟨a4, e4, _, _⟩ := DataW.trod_int Try.underlying3 g4
      obtain ⟨a5, e5, _, _⟩ := DataW.trod_int Try.underlying3 g5
      obtain ⟨a6, e6, _, w6⟩ := DataW.trod_int Try.underlying25 g6
      obtain ⟨a7, e7, _⟩ := DataW.trod_bool Try.underlying4 g7
      obtain ⟨es, hes, hnm⟩ := ents_of g8
      obtain ⟨a9, e9, _, w9⟩ := DataW.trod_int Try.underlying25 g9
      simp at eat e0 e3 e4 e5 e6 e7 e9
      obtain ⟨rfl, rfl, rfl, rfl, rfl, rfl, rfl, rfl⟩ := eat
      subst e0 e3 e4 e5 e6 e7 e9
      refine ⟨⟨a0, ⟨h1, h2, h3⟩, at1, s3.data.toList, a4, a5, a6, a7, es, a9⟩, x17, ?_, hes, wat, u64_of w6, u64_of w9, by simpa using w3, hnm⟩
      unfold prC txt
      dsimp only
end
end Go.Proofs.Ytpklgcinijlmmaa
namespace Go.Proofs.Ytpklgcinijlmmaa
open Go.RowKit

def AR (p : PA) : Prop := PAok p ∧ p.n.length ≤ 10000 ∧ p.o.length ≤ 10000 ∧ p.x.length ≤ 10000
theorem rInt_range (s : St) : -9223372036854775808 ≤ (rInt s).1 ∧ (rInt s).1 ≤ 9223372036854775807 := by
  have h := rLong_range s
  unfold rInt asInt wrap64
  dsimp only
  omega
theorem RD_AR {c : UInt8} (hc : isL c) {z : PA} (h : AR z) (b : Bool) (s : St) : AR (RD (z, b, s) c).1 := by
  obtain ⟨⟨k1, k2, k3, k4, k5, k6, k7⟩, h2, h3, h4⟩ := h
  rcases hc with rfl | rfl | rfl | rfl | rfl | rfl | rfl | rfl | rfl | rfl | rfl | rfl
  · exact ⟨⟨k1, k2, k3, k4, k5, k6, k7⟩, h2, h3, h4⟩
  · exact ⟨⟨k1, k2, k3, k4, k5, k6, k7⟩, h2, h3, h4⟩
  · exact ⟨⟨k1, k2, k3, k4, k5, k6, k7⟩, by have := rText_max 255 s; show (rText 255 s).1.length ≤ 10000; exact Nat.le_trans this (by omega), h3, h4⟩
  · exact ⟨⟨k1, k2, k3, k4, k5, k6, k7⟩, h2, by have := rText_max 255 s; show (rText 255 s).1.length ≤ 10000; exact Nat.le_trans this (by omega), h4⟩
  · exact ⟨⟨k1, k2, k3, k4, k5, k6, k7⟩, h2, h3, by have := rText_max 2048 s; show (rText 2048 s).1.length ≤ 10000; exact Nat.le_trans this (by omega)⟩
  · exact ⟨⟨rLong_range s, k2, k3, k4, k5, k6, k7⟩, h2, h3, h4⟩
  · exact ⟨⟨k1, rInt_range s, k3, k4, k5, k6, k7⟩, h2, h3, h4⟩
  · exact ⟨⟨k1, k2, rInt_range s, k4, k5, k6, k7⟩, h2, h3, h4⟩
  · exact ⟨⟨k1, k2, k3, rInt_range s, k5, k6, k7⟩, h2, h3, h4⟩
  · exact ⟨⟨k1, k2, k3, k4, rInt_range s, k6, k7⟩, h2, h3, h4⟩
  · exact ⟨⟨k1, k2, k3, k4, k5, rInt_range s, k7⟩, h2, h3, h4⟩
  · exact ⟨⟨k1, k2, k3, k4, k5, k6, rInt_range s⟩, h2, h3, h4⟩
theorem RDs_AR (l : List UInt8) (h : ∀ c ∈ l, isL c) : ∀ (y : PA × Bool × St), AR y.1 → AR (l.foldl RD y).1 := by
  induction l with
  | nil => intro y e; exact e
  | cons c l ih =>
    intro y e
    rw [List.foldl_cons]
    obtain ⟨z, b, st⟩ := y
    exact ih (fun d hd => h d (by simp [hd])) _ (RD_AR (h c (by simp)) e b st)
theorem noPA_AR : AR noPA := ⟨⟨by decide, by decide, by decide, by decide, by decide, by decide, by decide⟩, by decide, by decide, by decide⟩
theorem read_room {k : Int} {s : List UInt8} {b : PA} (h : aRead k s = (b, 0)) : PAok b ∧ b.n.length ≤ 10000 ∧ b.o.length ≤ 10000 ∧ b.x.length ≤ 10000 := by
  unfold aRead at h
  split at h
  · have key := RDs_AR (asks k.toNat) (asks_isL _) (noPA, true, some s) noPA_AR
    change AR (aRds (asks k.toNat) s).1 at key
    generalize aRds (asks k.toNat) s = z at *
    unfold aJudge at h
    split at h
    · simp only [Prod.mk.injEq, and_true] at h
      rw [← h]
      exact key
    · simp at h
  · simp at h
end Go.Proofs.Ytpklgcinijlmmaa
namespace Go.Proofs.Ytpklgcinijlmmaa
open Go.RowKit

theorem eql_args (p : PA) (w : World) : (binOp .eql 27 (.agg (paC p)) (.agg (paC p))).run Try.prog w = .ok (.bool true) w := by
  obtain ⟨⟨h1, h2, h3⟩, ⟨t1, t2, t3⟩, n, o, x, a, q1, m, s, b, g, v⟩ := p
  unfold paC txt
  dsimp only
  go_simp
theorem Blk.range {w : World} {r : Nat} {t : TypeId} {xs : Array Value} (h : Blk w r t xs) : w.rangeAt r 0 xs.toList := fun j v hj => by
  rw [Nat.zero_add]
  exact h.cell (by simpa using hj)
theorem rowEq {w : World} {r : Nat} {t : TypeId} {xs : Array Value} (h : Blk w r t xs) : w.heap[r]? = some (.cells xs t (0, 0)) := h

set_option maxRecDepth 20000 in
set_option maxHeartbeats 8000000 in
theorem words_walk (k : Int) (p : PA) (s : List UInt8) (w : World) (ok : PAok p) (hn : p.n.length ≤ maxLen) (ho : p.o.length ≤ maxLen) (hx : p.x.length ≤ maxLen) (hs : s.length ≤ maxLen) :
    Calls Try.prog 4 #[.int .i64 k, paV p, .string ⟨s.toArray⟩] w fun e w' => e = .returned (.bool true) ∧ w.grownBy w' none := by
  have HLO := Lib.hid (fun w => long_args p w hn ho hx)
  have HB := Lib.hid (show longA p = false → p.n.length ≤ 10000 ∧ p.o.length ≤ 10000 ∧ p.x.length ≤ 10000 from fun h => by unfold longA at h; simp at h; omega)
  have HOK := Lib.hid ok
  unfold maxLen at hs
  have hs2 : (s.length : Int) ≤ 9223372036854775807 := by omega
  have zs : (⟨s.toArray⟩ : ByteArray).size = s.length := rfl
  clear ok hn ho hx hs
  show Calls _ _ #[.int .i64 k, .agg (paC p), .string ⟨s.toArray⟩] w _
  go_enter Try.func4, Try.ntmps4
  go_upto_region 1 with fail
  have hA := Blk.made w 27 (paC p)
  have ga := World.grownBy_alloc w (.cells (paC p) 27) none
  generalize w.alloc (.cells (paC p) 27) = w1 at *
  generalize w.heap.size = A at *
  have HA := Lib.hid hA
  have HG := Lib.hid ga
  clear hA ga
  go_wp2_with (refine wpList_load_row rfl 27 (.tmp 4) rfl A rfl 27 (paC p) (0, 0) _ (rowEq HA.out) Try.underlying27 rfl (by kernel_rfl) ?_; (try go_simp))
  refine (HLO.out w1).mono ?_; rintro e w2 ⟨rfl, g⟩
  replace HA := Lib.hid (HA.out.new g)
  replace HG := Lib.hid (World.grownBy.trans HG.out g)
  clear g HLO
  obtain ⟨B, hB⟩ : ∃ B, longA p = B := ⟨_, rfl⟩
  rw [hB] at HB ⊢
  clear hB
  cases B
  rotate_left
  · go_wp2_with fail
    go_ret
    exact ⟨rfl, HG.out⟩
  have HLL := Lib.hid (HB.out rfl)
  clear HB
  by_cases hl : 10000 < (s.length : Int)
  · go_wp2_with fail
    go_ret
    exact ⟨rfl, HG.out⟩
  have HSL : Hid (s.length ≤ 10000) := Lib.hid (by omega)
  have HW := Lib.hid (fun w => Write_any k p w HOK.out HLL.out.1 HLL.out.2.1 HLL.out.2.2)
  have HW2 := Lib.hid (fun w => rWrite_any k p w HOK.out.1 (by have := HLL.out; omega) (by have := HLL.out; omega) (by have := HLL.out; omega))
  have HR := Lib.hid (fun w => Read_any k s w (by have := HSL.out; omega))
  have HR2 := Lib.hid (fun w => rRead_any k s w (by have := HSL.out; omega))
  have HC := Lib.hid (fun w => Changes_any k p w)
  have HC2 := Lib.hid (fun w => changes_any k p w)
  generalize aWrite k p = y at *
  obtain ⟨tx, e1⟩ := y
  generalize aRead k s = y at *
  obtain ⟨b, e2⟩ := y
  generalize pChanges k p = C at *
  unfold TE txt at HW HW2
  unfold PT at HR HR2
  unfold paV at *
  dsimp only at HW HW2 HR HR2
  go_wp2_with (refine wpList_load_row rfl 27 (.tmp 4) rfl A rfl 27 (paC p) (0, 0) _ (rowEq HA.out) Try.underlying27 rfl (by kernel_rfl) ?_; (try go_simp))
  refine (HW.out _).mono ?_; rintro e w3 ⟨rfl, g⟩
  replace HA := Lib.hid (HA.out.new g)
  replace HG := Lib.hid (World.grownBy.trans HG.out g)
  clear g
  go_wp2_with (refine wpList_load_row rfl 27 (.tmp 4) rfl A rfl 27 (paC p) (0, 0) _ (rowEq HA.out) Try.underlying27 rfl (by kernel_rfl) ?_; (try go_simp))
  refine (HW2.out _).mono ?_; rintro e w4 ⟨rfl, g⟩
  replace HA := Lib.hid (HA.out.new g)
  replace HG := Lib.hid (World.grownBy.trans HG.out g)
  clear g HW HW2
  go_wp2_with (refine wpList_load_row rfl 27 (.tmp 4) rfl A rfl 27 (paC p) (0, 0) _ (rowEq HA.out) Try.underlying27 rfl (by kernel_rfl) ?_; (try go_simp))
  refine (HR.out _).mono ?_; rintro e w5 ⟨rfl, g⟩
  replace HA := Lib.hid (HA.out.new g)
  replace HG := Lib.hid (World.grownBy.trans HG.out g)
  clear g
  have ga := World.grownBy_alloc w5 (.cells #[.int .i64 0, .int .i64 0, .int .i64 0, .int .i64 0, .int .i64 0, .int .i64 0, .string ⟨#[]⟩, .string ⟨#[]⟩, .string ⟨#[]⟩, .int .i64 0, .int .i64 0, .int .i64 0, .int .i64 0, .int .i64 0, .int .i64 0, .int .u64 0] 27) none
  have g5 := setRow_grown (w5.alloc (.cells #[.int .i64 0, .int .i64 0, .int .i64 0, .int .i64 0, .int .i64 0, .int .i64 0, .string ⟨#[]⟩, .string ⟨#[]⟩, .string ⟨#[]⟩, .int .i64 0, .int .i64 0, .int .i64 0, .int .i64 0, .int .i64 0, .int .i64 0, .int .u64 0] 27)) w5.heap.size (paC b)
  have HM := Lib.hid ((Blk.made w5 27 #[.int .i64 0, .int .i64 0, .int .i64 0, .int .i64 0, .int .i64 0, .int .i64 0, .string ⟨#[]⟩, .string ⟨#[]⟩, .string ⟨#[]⟩, .int .i64 0, .int .i64 0, .int .i64 0, .int .i64 0, .int .i64 0, .int .i64 0, .int .u64 0]).row (paC b))
  replace HA := Lib.hid ((HA.out.new ga).kept g5 (by have := HA.out.lt; simp; omega))
  replace HG := Lib.hid (grown_own (World.grownBy.trans HG.out ga) g5 (fun n hn => by cases hn; have := HG.out.size; omega))
  clear ga g5
  go_upto_region 6 with (refine wpList_store_row rfl 27 (.tmp 11) (.tmp 39) rfl w5.heap.size (paC b) rfl rfl 27 #[.int .i64 0, .int .i64 0, .int .i64 0, .int .i64 0, .int .i64 0, .int .i64 0, .string ⟨#[]⟩, .string ⟨#[]⟩, .string ⟨#[]⟩, .int .i64 0, .int .i64 0, .int .i64 0, .int .i64 0, .int .i64 0, .int .i64 0, .int .u64 0] (Blk.made w5 27 #[.int .i64 0, .int .i64 0, .int .i64 0, .int .i64 0, .int .i64 0, .int .i64 0, .string ⟨#[]⟩, .string ⟨#[]⟩, .string ⟨#[]⟩, .int .i64 0, .int .i64 0, .int .i64 0, .int .i64 0, .int .i64 0, .int .i64 0, .int .u64 0]) (by kernel_rfl) (by kernel_rfl) (by kernel_rfl) ?_)
  generalize (w5.alloc (.cells #[.int .i64 0, .int .i64 0, .int .i64 0, .int .i64 0, .int .i64 0, .int .i64 0, .string ⟨#[]⟩, .string ⟨#[]⟩, .string ⟨#[]⟩, .int .i64 0, .int .i64 0, .int .i64 0, .int .i64 0, .int .i64 0, .int .i64 0, .int .u64 0] 27)).setRow w5.heap.size (paC b) = w6 at *
  generalize w5.heap.size = M at *
  go_wp2_with fail
  refine (HR2.out _).mono ?_; rintro e w7 ⟨rfl, g⟩
  replace HA := Lib.hid (HA.out.new g)
  replace HM := Lib.hid (HM.out.new g)
  replace HG := Lib.hid (World.grownBy.trans HG.out g)
  clear g HR HR2
  have ga := World.grownBy_alloc w7 (.cells #[.int .i64 0, .int .i64 0, .int .i64 0, .int .i64 0, .int .i64 0, .int .i64 0, .string ⟨#[]⟩, .string ⟨#[]⟩, .string ⟨#[]⟩, .int .i64 0, .int .i64 0, .int .i64 0, .int .i64 0, .int .i64 0, .int .i64 0, .int .u64 0] 27) none
  have g5 := setRow_grown (w7.alloc (.cells #[.int .i64 0, .int .i64 0, .int .i64 0, .int .i64 0, .int .i64 0, .int .i64 0, .string ⟨#[]⟩, .string ⟨#[]⟩, .string ⟨#[]⟩, .int .i64 0, .int .i64 0, .int .i64 0, .int .i64 0, .int .i64 0, .int .i64 0, .int .u64 0] 27)) w7.heap.size (paC b)
  have HN := Lib.hid ((Blk.made w7 27 #[.int .i64 0, .int .i64 0, .int .i64 0, .int .i64 0, .int .i64 0, .int .i64 0, .string ⟨#[]⟩, .string ⟨#[]⟩, .string ⟨#[]⟩, .int .i64 0, .int .i64 0, .int .i64 0, .int .i64 0, .int .i64 0, .int .i64 0, .int .u64 0]).row (paC b))
  replace HA := Lib.hid ((HA.out.new ga).kept g5 (by have := HA.out.lt; simp; omega))
  replace HM := Lib.hid ((HM.out.new ga).kept g5 (by have := HM.out.lt; simp; omega))
  replace HG := Lib.hid (grown_own (World.grownBy.trans HG.out ga) g5 (fun n hn => by cases hn; have := HG.out.size; omega))
  clear ga g5
  go_upto_region 7 with (refine wpList_store_row rfl 27 (.tmp 13) (.tmp 45) rfl w7.heap.size (paC b) rfl rfl 27 #[.int .i64 0, .int .i64 0, .int .i64 0, .int .i64 0, .int .i64 0, .int .i64 0, .string ⟨#[]⟩, .string ⟨#[]⟩, .string ⟨#[]⟩, .int .i64 0, .int .i64 0, .int .i64 0, .int .i64 0, .int .i64 0, .int .i64 0, .int .u64 0] (Blk.made w7 27 #[.int .i64 0, .int .i64 0, .int .i64 0, .int .i64 0, .int .i64 0, .int .i64 0, .string ⟨#[]⟩, .string ⟨#[]⟩, .string ⟨#[]⟩, .int .i64 0, .int .i64 0, .int .i64 0, .int .i64 0, .int .i64 0, .int .i64 0, .int .u64 0]) (by kernel_rfl) (by kernel_rfl) (by kernel_rfl) ?_)
  generalize (w7.alloc (.cells #[.int .i64 0, .int .i64 0, .int .i64 0, .int .i64 0, .int .i64 0, .int .i64 0, .string ⟨#[]⟩, .string ⟨#[]⟩, .string ⟨#[]⟩, .int .i64 0, .int .i64 0, .int .i64 0, .int .i64 0, .int .i64 0, .int .i64 0, .int .u64 0] 27)).setRow w7.heap.size (paC b) = wr at *
  generalize w7.heap.size = N at *
  have KEEP : Hid (∀ w', wr.grownBy w' none → Blk w' A 27 (paC p) ∧ Blk w' M 27 (paC b) ∧ Blk w' N 27 (paC b)) := Lib.hid (fun w' g => ⟨HA.out.new g, HM.out.new g, HN.out.new g⟩)
  refine wp_region_noPanic ?_
  refine wp_region_held_drew (S := fun w' => Blk w' A 27 (paC p) ∧ Blk w' M 27 (paC b) ∧ Blk w' N 27 (paC b)) (by kernel_rfl) (KEEP.out _ (drew_new _)) (fun hHeld => ?_)
  have HGR := Lib.hid (drew_new wr)
  refine wpAnyH_take (i := 0) (v := ?_) (by simp only [List.getElem?_toArray, List.getElem?_cons_zero]; rfl) (by kernel_rfl) (by kernel_rfl) (by kernel_rfl) (fun _ _ _ h => h) (Or.inl ⟨by rfl, ?_⟩) (by assumption) ?_
  rotate_left 1
  · intro w hSw; (try dsimp only at hSw); go_simp; all_goals (with_reducible rfl)
  try simp only [Act.put, List.setIfInBounds_toArray, List.set_cons_zero, List.set_cons_succ]
  refine wpAnyH_take (i := 1) (v := ?_) (by simp only [List.getElem?_toArray, List.getElem?_cons_succ, List.getElem?_cons_zero]; rfl) (by kernel_rfl) (by kernel_rfl) (by kernel_rfl) (fun _ _ _ h => h) (Or.inl ⟨by rfl, ?_⟩) (by assumption) ?_
  rotate_left 1
  · intro w hSw; (try dsimp only at hSw); go_simp; all_goals (with_reducible rfl)
  try simp only [Act.put, List.setIfInBounds_toArray, List.set_cons_zero, List.set_cons_succ]
  refine wpAnyH_take (i := 2) (v := ?_) (by simp only [List.getElem?_toArray, List.getElem?_cons_succ, List.getElem?_cons_zero]; rfl) (by kernel_rfl) (by kernel_rfl) (by kernel_rfl) (fun _ _ _ h => h) (Or.inl ⟨by rfl, ?_⟩) (by assumption) ?_
  rotate_left 1
  · intro w hSw; (try dsimp only at hSw); go_simp; all_goals (with_reducible rfl)
  try simp only [Act.put, List.setIfInBounds_toArray, List.set_cons_zero, List.set_cons_succ]
  refine wpAnyH_take (i := 3) (v := ?_) (by simp only [List.getElem?_toArray, List.getElem?_cons_succ, List.getElem?_cons_zero]; rfl) (by kernel_rfl) (by kernel_rfl) (by kernel_rfl) (fun _ _ _ h => h) (Or.inl ⟨by rfl, ?_⟩) (by assumption) ?_
  rotate_left 1
  · intro w hSw; (try dsimp only at hSw); go_simp; all_goals (with_reducible rfl)
  try simp only [Act.put, List.setIfInBounds_toArray, List.set_cons_zero, List.set_cons_succ]
  refine wpAnyH_take (i := 4) (v := ?_) (by simp only [List.getElem?_toArray, List.getElem?_cons_succ, List.getElem?_cons_zero]; rfl) (by kernel_rfl) (by kernel_rfl) (by kernel_rfl) (fun _ _ _ h => h) (Or.inl ⟨by rfl, ?_⟩) (by assumption) ?_
  rotate_left 1
  · intro w hSw; (try dsimp only at hSw); go_simp; all_goals (with_reducible rfl)
  try simp only [Act.put, List.setIfInBounds_toArray, List.set_cons_zero, List.set_cons_succ]
  refine wpAnyH_take (i := 5) (v := ?_) (by simp only [List.getElem?_toArray, List.getElem?_cons_succ, List.getElem?_cons_zero]; rfl) (by kernel_rfl) (by kernel_rfl) (by kernel_rfl) (fun _ _ _ h => h) (Or.inl ⟨by rfl, ?_⟩) (by assumption) ?_
  rotate_left 1
  · intro w hSw; (try dsimp only at hSw); go_simp; all_goals (with_reducible rfl)
  try simp only [Act.put, List.setIfInBounds_toArray, List.set_cons_zero, List.set_cons_succ]
  refine wpAnyH_take (i := 6) (v := ?_) (by simp only [List.getElem?_toArray, List.getElem?_cons_succ, List.getElem?_cons_zero]; rfl) (by kernel_rfl) (by kernel_rfl) (by kernel_rfl) (fun _ _ _ h => h) (Or.inl ⟨by rfl, ?_⟩) (by assumption) ?_
  rotate_left 1
  · intro w hSw; (try dsimp only at hSw); go_simp; all_goals (with_reducible rfl)
  try simp only [Act.put, List.setIfInBounds_toArray, List.set_cons_zero, List.set_cons_succ]
  refine wpAnyH_take (i := 7) (v := ?_) (by simp only [List.getElem?_toArray, List.getElem?_cons_succ, List.getElem?_cons_zero]; rfl) (by kernel_rfl) (by kernel_rfl) (by kernel_rfl) (fun _ _ _ h => h) (Or.inl ⟨by rfl, ?_⟩) (by assumption) ?_
  rotate_left 1
  · intro w hSw; (try dsimp only at hSw); go_simp; all_goals (with_reducible rfl)
  try simp only [Act.put, List.setIfInBounds_toArray, List.set_cons_zero, List.set_cons_succ]
  refine wpAnyH_take (i := 8) (v := ?_) (by simp only [List.getElem?_toArray, List.getElem?_cons_succ, List.getElem?_cons_zero]; rfl) (by kernel_rfl) (by kernel_rfl) (by kernel_rfl) (fun _ _ _ h => h) (Or.inl ⟨by rfl, ?_⟩) (by assumption) ?_
  rotate_left 1
  · intro w hSw; (try dsimp only at hSw); go_simp; all_goals (with_reducible rfl)
  try simp only [Act.put, List.setIfInBounds_toArray, List.set_cons_zero, List.set_cons_succ]
  refine wpAnyH_take (i := 9) (v := .agg (paC b)) (by simp only [List.getElem?_toArray, List.getElem?_cons_succ, List.getElem?_cons_zero]; rfl) (by kernel_rfl) (by kernel_rfl) (by kernel_rfl) (fun _ _ _ h => h) (yieldsIf_load_mid (by rfl) 27 (.tmp 11) rfl M 0 rfl (paC b).toList _ (fun w hS => (hS.2.1).range) Try.underlying27 rfl (by kernel_rfl)) (by assumption) ?_
  try simp only [Act.put, List.setIfInBounds_toArray, List.set_cons_zero, List.set_cons_succ]
  refine wpAnyH_take (i := 10) (v := .agg (paC b)) (by simp only [List.getElem?_toArray, List.getElem?_cons_succ, List.getElem?_cons_zero]; rfl) (by kernel_rfl) (by kernel_rfl) (by kernel_rfl) (fun _ _ _ h => h) (yieldsIf_load_mid (by rfl) 27 (.tmp 13) rfl N 0 rfl (paC b).toList _ (fun w hS => (hS.2.2).range) Try.underlying27 rfl (by kernel_rfl)) (by assumption) ?_
  try simp only [Act.put, List.setIfInBounds_toArray, List.set_cons_zero, List.set_cons_succ]
  have heq := fun w => eql_args b w
  refine wpAnyH_take (i := 11) (v := ?_) (by simp only [List.getElem?_toArray, List.getElem?_cons_succ, List.getElem?_cons_zero]; rfl) (by kernel_rfl) (by kernel_rfl) (by kernel_rfl) (fun _ _ _ h => h) (Or.inl ⟨by rfl, ?_⟩) (by assumption) ?_
  rotate_left 1
  · intro w hSw; (try dsimp only at hSw); go_simp; all_goals (with_reducible rfl)
  try simp only [Act.put, List.setIfInBounds_toArray, List.set_cons_zero, List.set_cons_succ]
  clear heq
  refine wpAnyH_take (i := 12) (v := ?_) (by simp only [List.getElem?_toArray, List.getElem?_cons_succ, List.getElem?_cons_zero]; rfl) (by kernel_rfl) (by kernel_rfl) (by kernel_rfl) (fun _ _ _ h => h) (Or.inl ⟨by rfl, ?_⟩) (by assumption) ?_
  rotate_left 1
  · intro w hSw; (try dsimp only at hSw); go_simp; all_goals (with_reducible rfl)
  try simp only [Act.put, List.setIfInBounds_toArray, List.set_cons_zero, List.set_cons_succ]
  refine wpAnyH_take (i := 13) (v := ?_) (by simp only [List.getElem?_toArray, List.getElem?_cons_succ, List.getElem?_cons_zero]; rfl) (by kernel_rfl) (by kernel_rfl) (by kernel_rfl) (fun _ _ _ h => h) (Or.inl ⟨by rfl, ?_⟩) (by assumption) ?_
  rotate_left 1
  · intro w hSw; (try dsimp only at hSw); go_simp; all_goals (with_reducible rfl)
  try simp only [Act.put, List.setIfInBounds_toArray, List.set_cons_zero, List.set_cons_succ]
  refine wpAnyH_take (i := 14) (v := ?_) (by simp only [List.getElem?_toArray, List.getElem?_cons_succ, List.getElem?_cons_zero]; rfl) (by kernel_rfl) (by kernel_rfl) (by kernel_rfl) (fun _ _ _ h => h) (Or.inl ⟨by rfl, ?_⟩) (by assumption) ?_
  rotate_left 1
  · intro w hSw; (try dsimp only at hSw); go_simp; all_goals (with_reducible rfl)
  try simp only [Act.put, List.setIfInBounds_toArray, List.set_cons_zero, List.set_cons_succ]
  refine wpAnyH_take (i := 15) (v := ?_) (by simp only [List.getElem?_toArray, List.getElem?_cons_succ, List.getElem?_cons_zero]; rfl) (by kernel_rfl) (by kernel_rfl) (by kernel_rfl) (fun _ _ _ h => h) (Or.inl ⟨by rfl, ?_⟩) (by assumption) ?_
  rotate_left 1
  · intro w hSw; (try dsimp only at hSw); go_simp; all_goals (with_reducible rfl)
  try simp only [Act.put, List.setIfInBounds_toArray, List.set_cons_zero, List.set_cons_succ]
  refine wpAnyH_take (i := 16) (v := ?_) (by simp only [List.getElem?_toArray, List.getElem?_cons_succ, List.getElem?_cons_zero]; rfl) (by kernel_rfl) (by kernel_rfl) (by kernel_rfl) (fun _ _ _ h => h) (Or.inl ⟨by rfl, ?_⟩) (by assumption) ?_
  rotate_left 1
  · intro w hSw; (try dsimp only at hSw); go_simp; all_goals (with_reducible rfl)
  try simp only [Act.put, List.setIfInBounds_toArray, List.set_cons_zero, List.set_cons_succ]
  refine wpAnyH_take (i := 17) (v := ?_) (by simp only [List.getElem?_toArray, List.getElem?_cons_succ, List.getElem?_cons_zero]; rfl) (by kernel_rfl) (by kernel_rfl) (by kernel_rfl) (fun _ _ _ h => h) (Or.inl ⟨by rfl, ?_⟩) (by assumption) ?_
  rotate_left 1
  · intro w hSw; (try dsimp only at hSw); go_simp; all_goals (with_reducible rfl)
  try simp only [Act.put, List.setIfInBounds_toArray, List.set_cons_zero, List.set_cons_succ]
  refine wpAnyH_take (i := 18) (v := ?_) (by simp only [List.getElem?_toArray, List.getElem?_cons_succ, List.getElem?_cons_zero]; rfl) (by kernel_rfl) (by kernel_rfl) (by kernel_rfl) (fun _ _ _ h => h) (Or.inl ⟨by rfl, ?_⟩) (by assumption) ?_
  rotate_left 1
  · intro w hSw; (try dsimp only at hSw); go_simp; all_goals (with_reducible rfl)
  try simp only [Act.put, List.setIfInBounds_toArray, List.set_cons_zero, List.set_cons_succ]
  refine wpAnyH_take (i := 19) (v := ?_) (by simp only [List.getElem?_toArray, List.getElem?_cons_succ, List.getElem?_cons_zero]; rfl) (by kernel_rfl) (by kernel_rfl) (by kernel_rfl) (fun _ _ _ h => h) (Or.inl ⟨by rfl, ?_⟩) (by assumption) ?_
  rotate_left 1
  · intro w hSw; (try dsimp only at hSw); go_simp; all_goals (with_reducible rfl)
  try simp only [Act.put, List.setIfInBounds_toArray, List.set_cons_zero, List.set_cons_succ]
  refine wpAnyH_take (i := 20) (v := .agg (paC p)) (by simp only [List.getElem?_toArray, List.getElem?_cons_succ, List.getElem?_cons_zero]; rfl) (by kernel_rfl) (by kernel_rfl) (by kernel_rfl) (fun _ _ _ h => h) (yieldsIf_load_mid (by rfl) 27 (.tmp 4) rfl A 0 rfl (paC p).toList _ (fun w hS => (hS.1).range) Try.underlying27 rfl (by kernel_rfl)) (by assumption) ?_
  try simp only [Act.put, List.setIfInBounds_toArray, List.set_cons_zero, List.set_cons_succ]
  refine wpAnyH_take (i := 22) (v := ?_) (by simp only [List.getElem?_toArray, List.getElem?_cons_succ, List.getElem?_cons_zero]; rfl) (by kernel_rfl) (by kernel_rfl) (by kernel_rfl) (fun _ _ _ h => h) (Or.inl ⟨by rfl, ?_⟩) (by assumption) ?_
  rotate_left 1
  · intro w hSw; (try dsimp only at hSw); go_simp; all_goals (with_reducible rfl)
  try simp only [Act.put, List.setIfInBounds_toArray, List.set_cons_zero, List.set_cons_succ]
  refine wpAnyH_take (i := 23) (v := .agg (paC p)) (by simp only [List.getElem?_toArray, List.getElem?_cons_succ, List.getElem?_cons_zero]; rfl) (by kernel_rfl) (by kernel_rfl) (by kernel_rfl) (fun _ _ _ h => h) (yieldsIf_load_mid (by rfl) 27 (.tmp 4) rfl A 0 rfl (paC p).toList _ (fun w hS => (hS.1).range) Try.underlying27 rfl (by kernel_rfl)) (by assumption) ?_
  try simp only [Act.put, List.setIfInBounds_toArray, List.set_cons_zero, List.set_cons_succ]
  refine wpAnyH_ready (rs := [21]) (by kernel_rfl) (by simp) ?_
  refine AllReadyH.cons (by simp only [List.getElem?_toArray, List.getElem?_cons_succ, List.getElem?_cons_zero]; rfl) (fun K hK => ?_) AllReadyH.nil
  go_simp
  refine (HC.out _).mono ?_; rintro e0 v1 ⟨rfl, hg⟩
  clear hHeld
  replace HGR := Lib.hid (World.grownBy.trans HGR.out hg)
  clear hg
  go_wp2_with fail
  refine hK.out _ _ (KEEP.out _ HGR.out) (fun hHeld => ?_)
  clear hK K
  try simp only [Act.put, List.setIfInBounds_toArray, List.set_cons_zero, List.set_cons_succ]
  refine wpAnyH_ready (rs := [24]) (by kernel_rfl) (by simp) ?_
  refine AllReadyH.cons (by simp only [List.getElem?_toArray, List.getElem?_cons_succ, List.getElem?_cons_zero]; rfl) (fun K hK => ?_) AllReadyH.nil
  go_simp
  refine (HC2.out _).mono ?_; rintro e0 v2 ⟨rfl, hg⟩
  clear hHeld
  replace HGR := Lib.hid (World.grownBy.trans HGR.out hg)
  clear hg
  go_wp2_with fail
  refine hK.out _ _ (KEEP.out _ HGR.out) (fun hHeld => ?_)
  clear hK K
  try simp only [Act.put, List.setIfInBounds_toArray, List.set_cons_zero, List.set_cons_succ]
  refine wpAnyH_take (i := 25) (v := ?_) (by simp only [List.getElem?_toArray, List.getElem?_cons_succ, List.getElem?_cons_zero]; rfl) (by kernel_rfl) (by kernel_rfl) (by kernel_rfl) (fun _ _ _ h => h) (Or.inl ⟨by rfl, ?_⟩) (by assumption) ?_
  rotate_left 1
  · intro w hSw; (try dsimp only at hSw); go_simp; all_goals (with_reducible rfl)
  try simp only [Act.put, List.setIfInBounds_toArray, List.set_cons_zero, List.set_cons_succ]
  refine wpAnyH_take (i := 26) (v := ?_) (by simp only [List.getElem?_toArray, List.getElem?_cons_succ, List.getElem?_cons_zero]; rfl) (by kernel_rfl) (by kernel_rfl) (by kernel_rfl) (fun _ _ _ h => h) (Or.inl ⟨by rfl, ?_⟩) (by assumption) ?_
  rotate_left 1
  · intro w hSw; (try dsimp only at hSw); go_simp; all_goals (with_reducible rfl)
  try simp only [Act.put, List.setIfInBounds_toArray, List.set_cons_zero, List.set_cons_succ]
  refine wpAnyH_take (i := 27) (v := ?_) (by simp only [List.getElem?_toArray, List.getElem?_cons_succ, List.getElem?_cons_zero]; rfl) (by kernel_rfl) (by kernel_rfl) (by kernel_rfl) (fun _ _ _ h => h) (Or.inl ⟨by rfl, ?_⟩) (by assumption) ?_
  rotate_left 1
  · intro w hSw; (try dsimp only at hSw); go_simp; all_goals (with_reducible rfl)
  try simp only [Act.put, List.setIfInBounds_toArray, List.set_cons_zero, List.set_cons_succ]
  refine wpAnyH_done (by kernel_rfl) ?_ _
  refine NoPanic.normal ?_
  go_wp2_with fail
  go_ret
  exact ⟨rfl, World.grownBy.trans HG.out HGR.out⟩


theorem words_main (k : Int) (_ : (Lit.int .i64 k).wf = true) (v : Value) (s : ByteArray) (hs : s.size ≤ maxLen) (w : World) (hv : PAin v) :
    Calls Try.prog 4 #[.int .i64 k, v, .string s] w fun e w' => e = .returned (.bool true) ∧ w.grownBy w' none := by
  obtain ⟨p, rfl, ok, hn, ho, hx⟩ := hv
  exact words_walk k p s.data.toList w ok hn ho hx (by simpa using hs)

end Go.Proofs.Ytpklgcinijlmmaa
