/- XdrRow returns true, whatever is written. -/
import Derived.Test.YtdjapbgilcainaaWk
import Derived.Test.YtdjapbgilcainaaPure
import Derived.Test.YtdjapbgilcainaaLaw
import Derived.LoopTactic
import Derived.Deep.RegionHeld3
namespace Go.Proofs.Ytdjapbgilcainaa
open Go.RowKit



set_option maxHeartbeats 1000000 in
theorem row_long (v1 v2 : Value) (n1 n2 : Nat) (f1 f2 : Nat → Value) (w : World) (h1 : Elems w v1 1 n1 f1) (h2 : Elems w v2 1 n2 f2) (h : 500 < n1 ∨ 100 < n2) :
    Calls Try.prog 8 #[v1, v2] w fun e w' => e = .returned (.bool true) ∧ w.grownBy w' none := by
  obtain ⟨a1, c1, rfl, m1⟩ := h1.form
  obtain ⟨a2, c2, rfl, m2⟩ := h2.form
  clear h1 h2
  unfold maxLen at m1 m2
  have fin : 500 < n1 ∨ (n1 ≤ 500 ∧ 100 < n2) := by omega
  clear h
  rcases fin with h | ⟨h, h'⟩
  all_goals
    go_enter Try.func8, Try.ntmps8
    go_wp2_with fail
    refine (works_any _).mono ?_; rintro e w1 ⟨rfl, hg⟩
    have HG := Lib.hid hg; clear hg
    go_wp2_with fail
    refine (works_any _).mono ?_; rintro e w2 ⟨rfl, hg⟩
    have HG2 := Lib.hid hg; clear hg
    go_wp2_with fail
    go_ret
    exact ⟨rfl, World.grownBy.trans HG.out HG2.out⟩

/-- Words, one behind the other. -/
def wordsB (zs : List Int) : List UInt8 := zs.flatMap fun z => word4 z.toNat
def textsB (ss : List ByteArray) : List UInt8 := ss.flatMap fun s => textB s.data.toList

theorem wordsB_succ (zs : List Int) (j : Nat) (h : j < zs.length) : wordsB (zs.take (j + 1)) = wordsB (zs.take j) ++ word4 (zs.getD j 0).toNat := by
  unfold wordsB
  rw [List.take_succ_eq_append_getElem h, List.flatMap_append]
  simp [List.getD, List.getElem?_eq_getElem h]
theorem textsB_succ (ss : List ByteArray) (j : Nat) (h : j < ss.length) : textsB (ss.take (j + 1)) = textsB (ss.take j) ++ textB (ss.getD j ByteArray.empty).data.toList := by
  unfold textsB
  rw [List.take_succ_eq_append_getElem h, List.flatMap_append]
  simp [List.getD, List.getElem?_eq_getElem h]
theorem wordsB_drop (zs : List Int) (j : Nat) (h : j < zs.length) : wordsB (zs.drop j) = word4 (zs.getD j 0).toNat ++ wordsB (zs.drop (j + 1)) := by
  unfold wordsB
  rw [List.drop_eq_getElem_cons h, List.flatMap_cons]
  simp [List.getD, List.getElem?_eq_getElem h]
theorem textsB_drop (ss : List ByteArray) (j : Nat) (h : j < ss.length) : textsB (ss.drop j) = textB (ss.getD j ByteArray.empty).data.toList ++ textsB (ss.drop (j + 1)) := by
  unfold textsB
  rw [List.drop_eq_getElem_cons h, List.flatMap_cons]
  simp [List.getD, List.getElem?_eq_getElem h]
theorem wordsB_len (zs : List Int) : (wordsB zs).length = 4 * zs.length := by
  unfold wordsB
  induction zs with
  | nil => rfl
  | cons z l ih => rw [List.flatMap_cons, List.length_append, ih, word4_len, List.length_cons]; omega

set_option maxRecDepth 100000 in
set_option maxHeartbeats 4000000 in
theorem row_main (v1 v2 : Value) (zs : List Int) (ss : List ByteArray) (w : World) (hz : ∀ n ∈ zs, (Lit.int .u32 n).wf = true) (hs : ∀ s ∈ ss, s.size ≤ maxLen) (h1 : Elems w v1 1 zs.length (fun i => .int .u32 (zs.getD i 0))) (h2 : Elems w v2 1 ss.length (fun i => .string (ss.getD i ByteArray.empty)))
    (k1 : zs.length ≤ 500) (k2 : ss.length ≤ 100) :
    Calls Try.prog 8 #[v1, v2] w fun e w' => e = .returned (.bool true) ∧ w.grownBy w' none := by
  obtain ⟨a1, c1, rfl, m1⟩ := h1.form
  obtain ⟨a2, c2, rfl, m2⟩ := h2.form
  have wf : Hid (∀ j, 0 ≤ zs.getD j 0 ∧ zs.getD j 0 < 4294967296) := Lib.hid (fun j => by
    by_cases hj : j < zs.length
    · have := hz (zs.getD j 0) (by simp [List.getD, List.getElem?_eq_getElem hj])
      simp [Lit.wf, IntKind.min, IntKind.max, IntKind.signed, IntKind.bits] at this
      simp only [List.getD_eq_getElem?_getD] at *
      omega
    · simp [List.getD, List.getElem?_eq_none (Nat.le_of_not_lt hj)])
  have SZ : Hid (∀ j, (ss.getD j ByteArray.empty).size ≤ 9223372036854775807) := Lib.hid (fun j => by
    by_cases hj : j < ss.length
    · have := hs (ss.getD j ByteArray.empty) (by simp [List.getD, List.getElem?_eq_getElem hj])
      unfold maxLen at this
      exact this
    · simp [List.getD, List.getElem?_eq_none (Nat.le_of_not_lt hj)])
  have H1 := Lib.hid h1; have H2 := Lib.hid h2
  have A := Lib.hid (All.start w)
  clear h1 h2 hz hs m1 m2
  generalize hn1 : zs.length = n1 at *
  generalize hn2 : ss.length = n2 at *
  have N1 := Lib.hid hn1; have N2 := Lib.hid hn2; clear hn1 hn2
  have d1 : decide (500 < (n1 : Int)) = false := by rw [decide_eq_false_iff_not]; omega
  have d2 : decide (100 < (n2 : Int)) = false := by rw [decide_eq_false_iff_not]; omega
  go_enter Try.func8, Try.ntmps8
  go_wp2_with fail
  refine (works_any _).mono ?_; rintro e w1 ⟨rfl, hg⟩
  replace A := Lib.hid (A.out.new hg); clear hg
  go_wp2_with fail
  go_loopw [5, 6] (fun b i w' => ∃ j : Nat, j ≤ n1 ∧ i = .int .i64 j ∧ All w w' [] ∧ Bts w' b (wordsB (zs.take j))) (fun _ i w' => n1 - (intOf i).toNat)
  case atStart => exact ⟨0, Nat.zero_le _, rfl, A.out, Bts.nil _⟩
  case round =>
    clear A
    obtain ⟨j, hj, rfl, hA, hb⟩ := hrel
    have A := Lib.hid hA
    obtain ⟨a3, l3, c3, rfl⟩ := hb.shape
    have HB := Lib.hid hb; clear hA hb
    have LB : Hid ((wordsB (zs.take j)).length ≤ 2000) := Lib.hid (by rw [wordsB_len, List.length_take]; have := N1.out; omega)
    by_cases hlt : j < n1
    · obtain ⟨gb, o, rfl, hcs⟩ := H1.out.cells (by omega)
      have hc := A.out.1.cell (hcs j (by omega)) (by simp)
      obtain ⟨z0, z1⟩ := wf.out j
      have HS := Lib.hid (wordsB_succ zs j (by have := N1.out; omega))
      clear hcs
      generalize zs.getD j 0 = z at *
      obtain ⟨y, rfl⟩ := Int.eq_ofNat_of_zero_le z0
      rw [Int.toNat_natCast] at HS
      have HY : Hid (y < 4294967296) := Lib.hid (by omega)
      go_wp2_with fail
      refine (Word_any _ _ y _ HB.out (by have := LB.out; omega) HY.out).mono ?_; rintro e w3 ⟨v3, rfl, ho, hg⟩
      have A3 := Lib.hid (A.out.new hg); obtain ⟨a4, n4, c4, rfl⟩ := ho.bts.shape; have HO := Lib.hid ho.bts; clear ho hg hc
      go_wp2_with fail
      go_roundw
      case rel => exact ⟨j + 1, by omega, by go_num, A3.out, by rw [HS.out]; exact HO.out⟩
      case measure => simp [intOf]; omega
    · obtain rfl : n1 = j := by omega
      clear hlt
      have HB2 : Hid (Bts wr (.slice a3 l3 c3) (wordsB zs ++ textsB (ss.take 0)) ∧ wordsB zs ++ textsB (ss.take 0) = wordsB zs) := Lib.hid (by
        have h : wordsB zs ++ textsB (ss.take 0) = wordsB zs := by simp [textsB]
        refine ⟨?_, h⟩
        rw [h]
        have := HB.out; rw [List.take_of_length_le (by have := N1.out; omega)] at this; exact this)
      have L0 : Hid ((wordsB zs ++ textsB (ss.take 0)).length = 4 * n1) := Lib.hid (by rw [HB2.out.2, wordsB_len, N1.out])
      clear HB LB
      go_wp2_with fail
      obtain ⟨w0, rfl⟩ : ∃ wo : World, wo = wr := ⟨_, rfl⟩
      go_loopw [5, 7, 8] (fun b s i w' => ∃ j : Nat, j ≤ n2 ∧ i = .int .i64 j ∧ All w w' [] ∧ Bts w' b (wordsB zs ++ textsB (ss.take j)) ∧ s = .int .i64 ((wordsB zs ++ textsB (ss.take j)).length : Int) ∧ (wordsB zs ++ textsB (ss.take j)).length ≤ 2000 + 2010 * j ∧ (∀ i, i < j → (ss.getD i ByteArray.empty).size ≤ 2000)) (fun _ _ i w' => n2 - (intOf i).toNat)
      case atStart => exact ⟨0, Nat.zero_le _, rfl, A.out, HB2.out.1, by rw [L0.out]; go_num, by rw [L0.out]; omega, fun i hi => by omega⟩
      case round =>
        clear A HB2 L0
        obtain ⟨j, hj, rfl, hA, hb, rfl, hl, hall⟩ := hrel
        have A := Lib.hid hA
        have HALL := Lib.hid hall; clear hA hall
        obtain ⟨a4, c4, rfl, _, _⟩ := hb.form
        have HB := Lib.hid hb; have HL := Lib.hid hl
        clear hb
        generalize hL : (wordsB zs ++ textsB (ss.take j)).length = L at *
        have HLE := Lib.hid hL; clear hL
        by_cases hlt : j < n2
        · obtain ⟨gb, o, rfl, hcs⟩ := H2.out.cells (by omega)
          have hc := A.out.1.cell (hcs j (by omega)) (by simp)
          have HS := Lib.hid (textsB_succ ss j (by have := N2.out; omega))
          have hsz := SZ.out j
          clear hcs
          by_cases hbig : (ss.getD j ByteArray.empty).size ≤ 2000
          · have HALL2 : Hid (∀ i, i < j + 1 → (ss.getD i ByteArray.empty).size ≤ 2000) := Lib.hid (fun i hi => by
              by_cases h : i = j
              · subst h; exact hbig
              · exact HALL.out i (by omega))
            generalize ss.getD j ByteArray.empty = s at *
            have HLN : Hid ((wordsB zs ++ (textsB (ss.take j) ++ textB s.data.toList)).length = L + 4 + (s.size + 3) / 4 * 4) := Lib.hid (by
              have zz : s.data.toList.length = s.size := by simp
              rw [← List.append_assoc, List.length_append, HLE.out, textB_len, zz]; unfold pad; omega)
            go_wp2_with fail
            refine (Text_any _ _ s _ HB.out (by have := HLE.out; omega) (by omega)).mono ?_; rintro e w3 ⟨v3, rfl, ho, hg⟩
            have A3 := Lib.hid (A.out.new hg); obtain ⟨a5, n5, c5, rfl⟩ := ho.bts.shape; rw [List.append_assoc] at ho; have HO := Lib.hid ho.bts; have hc3 := hg.cell hc (by simp); clear ho hg hc
            go_wp2_with fail
            go_roundw
            case rel => exact ⟨j + 1, by omega, by go_num, A3.out, by rw [HS.out]; exact HO.out, by rw [HS.out, HLN.out]; go_num, by rw [HS.out, HLN.out]; omega, HALL2.out⟩
            case measure => simp [intOf]; omega
          · generalize ss.getD j ByteArray.empty = s at *
            have hbig2 : decide (2000 < (s.size : Int)) = true := by rw [decide_eq_true_iff]; omega
            go_wp2_with fail
            go_ret
            exact ⟨rfl, A.out.1⟩
        · obtain rfl : n2 = j := by omega
          have HT : Hid (ss.take n2 = ss) := Lib.hid (by rw [List.take_of_length_le (by have := N2.out; omega)])
          have HB2 : Hid (Bts wr (.slice a4 L c4) (wordsB (zs.drop 0) ++ textsB ss)) := Lib.hid (by have := HB.out; rw [HT.out] at this; exact this)
          have HL2 : Hid ((wordsB (zs.drop 0) ++ textsB ss).length ≤ 100000000000) := Lib.hid (by have := HLE.out; rw [HT.out] at this; have h2 := HL.out; show (wordsB zs ++ textsB ss).length ≤ _; omega)
          clear hlt HB HLE HT
          go_wp2_with fail
          refine (newReader_any _ _ _ HB2.out HL2.out).mono ?_
          rintro e w4 ⟨r, g, rfl, h1, h2, h3, h4, h5⟩
          replace A : Hid (All w w4 [(r, g, some (wordsB (zs.drop 0) ++ textsB ss))]) := Lib.hid (A.out.made h1 h2 h3 h4 h5)
          clear h1 h2 h3 h4 h5 HB2 HL2
          go_wp2_with fail
          obtain ⟨w5, rfl⟩ : ∃ wo : World, wo = w4 := ⟨_, rfl⟩
          go_loopw [10] (fun i w' => ∃ j : Nat, j ≤ n1 ∧ i = .int .i64 j ∧ All w w' [(r, g, some (wordsB (zs.drop j) ++ textsB ss))]) (fun i w' => n1 - (intOf i).toNat)
          case atStart => exact ⟨0, Nat.zero_le _, rfl, A.out⟩
          case round =>
            clear A
            obtain ⟨j, hj, rfl, hA⟩ := hrel
            have A := Lib.hid hA; clear hA
            by_cases hlt : j < n1
            · obtain ⟨gb, o, rfl, hcs⟩ := H1.out.cells (by omega)
              have hc := A.out.1.cell (hcs j (by omega)) (by simp)
              have HF : Hid (gb < w.heap.size) := Lib.hid (World.block_lt_of_cell? w _ (hcs j (by omega)))
              obtain ⟨z0, z1⟩ := wf.out j
              have HS := Lib.hid (wordsB_drop zs j (by have := N1.out; omega))
              clear hcs
              generalize zs.getD j 0 = z at *
              obtain ⟨y, rfl⟩ := Int.eq_ofNat_of_zero_le z0
              rw [Int.toNat_natCast] at HS
              have E : Hid (rWord (some (wordsB (zs.drop j) ++ textsB ss)) = ((y : Int), some (wordsB (zs.drop (j + 1)) ++ textsB ss))) := Lib.hid (by
                rw [HS.out, List.append_assoc]
                exact rWord_word4 y (by omega) _)
              have hj0 : (0 : Int) ≤ (j : Int) := by omega
              have hj1 : (j : Int) < (n1 : Int) := by omega
              go_wp2_with fail
              have hne : gb ≠ r := by have h1 := HF.out; have h2 := (A.out.2.1 0 _ rfl).2.1; simp at h2; omega
              go_region_held3 (fun w' => w'.cell? ⟨gb, o + j, none⟩ = some (.int .u32 (y : Int))) (first | go_keep | exact K2.out.cell (by assumption) (by simpa using hne))
                (first | (go_at_call 17; refine (word_l r g _ _ (by first | exact A.out.get 0 rfl | exact (A.out.get 0 rfl).new (drew_grown _ _)) _ _ E.out).mono ?_; rintro e w6 ⟨rfl, k1, k2⟩; have K1 := Lib.hid k1; have K2 := Lib.hid k2; clear k1 k2))
              have A6 : Hid (All w w6 [(r, g, some (wordsB (zs.drop (j + 1)) ++ textsB ss))]) := Lib.hid (A.out.read 0 rfl K1.out (by first | exact K2.out | exact World.grownBy.trans (drew_grown _ _) K2.out))
              clear K1 K2 A
              go_wp2_with fail
              go_roundw
              case rel => exact ⟨j + 1, by omega, by go_num, A6.out⟩
              case measure => simp [intOf]; omega
            · obtain rfl : n1 = j := by omega
              clear hlt
              have A7 : Hid (All w wr [(r, g, some (textsB (ss.drop 0)))]) := Lib.hid (by
                have h := A.out
                rw [List.drop_of_length_le (by have := N1.out; omega)] at h
                exact h)
              clear A
              go_wp2_with fail
              obtain ⟨w7, rfl⟩ : ∃ wo : World, wo = wr := ⟨_, rfl⟩
              go_loopw [11] (fun i w' => ∃ j : Nat, j ≤ n2 ∧ i = .int .i64 j ∧ All w w' [(r, g, some (textsB (ss.drop j)))]) (fun i w' => n2 - (intOf i).toNat)
              case atStart => exact ⟨0, Nat.zero_le _, rfl, A7.out⟩
              case round =>
                clear A7
                obtain ⟨j, hj, rfl, hA⟩ := hrel
                have A := Lib.hid hA; clear hA
                by_cases hlt : j < n2
                · obtain ⟨gb, o, rfl, hcs⟩ := H2.out.cells (by omega)
                  have hc := A.out.1.cell (hcs j (by omega)) (by simp)
                  have HF : Hid (gb < w.heap.size) := Lib.hid (World.block_lt_of_cell? w _ (hcs j (by omega)))
                  have HS := Lib.hid (textsB_drop ss j (by have := N2.out; omega))
                  have hsz := HALL.out j hlt
                  clear hcs
                  generalize ss.getD j ByteArray.empty = s at *
                  have E : Hid (rText (s.size : Int) (some (textsB (ss.drop j))) = (s.data.toList, some (textsB (ss.drop (j + 1))))) := Lib.hid (by
                    have zz : s.data.toList.length = s.size := by simp
                    have h := rText_textB s.data.toList (textsB (ss.drop (j + 1))) (by omega)
                    rw [zz] at h
                    rw [HS.out]
                    exact h)
                  have hj0 : (0 : Int) ≤ (j : Int) := by omega
                  have hj1 : (j : Int) < (n2 : Int) := by omega
                  have hne : gb ≠ r := by have h1 := HF.out; have h2 := (A.out.2.1 0 _ rfl).2.1; simp at h2; omega
                  go_wp2_with fail
                  go_region_held3 (fun w' => w'.cell? ⟨gb, o + j, none⟩ = some (.string s)) (first | go_keep | exact K2.out.cell (by assumption) (by simpa using hne))
                    (first | (go_at_call 25; refine (text_l r g _ _ (by first | exact A.out.get 0 rfl | exact (A.out.get 0 rfl).new (drew_grown _ _)) _ s.data _ E.out).mono ?_; rintro e w6 ⟨rfl, k1, k2⟩; have K1 := Lib.hid k1; have K2 := Lib.hid k2; clear k1 k2))
                  have A6 : Hid (All w w6 [(r, g, some (textsB (ss.drop (j + 1))))]) := Lib.hid (A.out.read 0 rfl K1.out (by first | exact K2.out | exact World.grownBy.trans (drew_grown _ _) K2.out))
                  clear K1 K2 A
                  go_wp2_with fail
                  go_roundw
                  case rel => exact ⟨j + 1, by omega, by go_num, A6.out⟩
                  case measure => simp [intOf]; omega
                · obtain rfl : n2 = j := by omega
                  clear hlt
                  have A8 : Hid (All w wr [(r, g, some [])]) := Lib.hid (by
                    have h := A.out
                    rw [List.drop_of_length_le (by have := N2.out; omega)] at h
                    exact h)
                  clear A
                  go_wp2_with fail
                  refine (done_l r g _ _ (A8.out.get 0 rfl) true rfl).mono ?_; rintro e w8 ⟨rfl, rfl⟩
                  go_wp2_with fail
                  go_ret
                  exact ⟨rfl, A8.out.1⟩

theorem row_walk (v1 v2 : Value) (w : World) (h1 : ∃ zs : List Int, (∀ n ∈ zs, (Lit.int .u32 n).wf = true) ∧ Elems w v1 1 zs.length (fun i => .int .u32 (zs.getD i 0)))
    (h2 : ∃ ss : List ByteArray, (∀ s ∈ ss, s.size ≤ maxLen) ∧ Elems w v2 1 ss.length (fun i => .string (ss.getD i ByteArray.empty))) :
    Calls Try.prog 8 #[v1, v2] w fun e w' => e = .returned (.bool true) ∧ w.grownBy w' none := by
  obtain ⟨zs, hz, h1⟩ := h1
  obtain ⟨ss, hs, h2⟩ := h2
  by_cases h : 500 < zs.length ∨ 100 < ss.length
  · exact row_long v1 v2 _ _ _ _ w h1 h2 h
  · exact row_main v1 v2 zs ss w hz hs h1 h2 (by omega) (by omega)
end Go.Proofs.Ytdjapbgilcainaa
