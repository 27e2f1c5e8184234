/- DigestOf, call by call. -/
import Derived.Test.YtdicoojodefacaaDigT
import Derived.Test.YtdicoojodefacaaStrsZ
import Derived.Deep.RegionHeld3
namespace Go.Proofs.Ytdicoojodefacaa
open Go.RowKit

theorem str_app (x y : List UInt8) : ((⟨x.toArray⟩ : ByteArray) ++ ⟨y.toArray⟩) = ⟨(x ++ y).toArray⟩ := by
  apply ByteArray.ext
  simp
theorem word8_len (n : Nat) : (word8 n).length = 8 := rfl
theorem partsOf_take (ps : List (List UInt8)) (k : Nat) (h : k < ps.length) : partsOf (ps.take (k + 1)) = partsOf (ps.take k) ++ word8 ps[k].length ++ ps[k] := by
  rw [List.take_succ_eq_append_getElem h, partsOf_snoc]
  unfold partOf
  rw [List.append_assoc]
theorem partsOf_len (ps : List (List UInt8)) (k : Nat) (h : k < ps.length) : (partsOf (ps.take (k + 1))).length = (partsOf (ps.take k)).length + 8 + ps[k].length := by
  rw [partsOf_take ps k h, List.length_append, List.length_append, word8_len]
theorem partsOf_le (ps : List (List UInt8)) (k : Nat) : (partsOf (ps.take k)).length ≤ (partsOf ps).length := by
  have h : partsOf ps = partsOf (ps.take k) ++ partsOf (ps.drop k) := by
    unfold partsOf
    rw [← List.flatMap_append, List.take_append_drop]
  rw [h, List.length_append]
  omega
theorem partsOf_many (ps : List (List UInt8)) : ps.length ≤ (partsOf ps).length := by
  induction ps with
  | nil => exact Nat.zero_le _
  | cons p ps ih =>
    have : partsOf (p :: ps) = partOf p ++ partsOf ps := rfl
    rw [this, List.length_append]
    unfold partOf
    rw [List.length_append, word8_len, List.length_cons]
    omega
theorem word8_small (m : Nat) (h : m < 4294967296) : #[Value.int .u8 0, .int .u8 0, .int .u8 0, .int .u8 0, .int .u8 (IntKind.u8.wrap ((m : Int) / 16777216)), .int .u8 (IntKind.u8.wrap ((m : Int) / 65536)), .int .u8 (IntKind.u8.wrap ((m : Int) / 256)), .int .u8 (IntKind.u8.wrap (m : Int))] = ((word8 m).map u8v).toArray := by
  unfold word8
  rw [show m / 72057594037927936 = 0 by omega, show m / 281474976710656 = 0 by omega, show m / 1099511627776 = 0 by omega, show m / 4294967296 = 0 by omega]
  simp only [List.map_cons, List.map_nil, u8v, UInt8.toNat_ofNat', IntKind.wrap_u8]
  rfl
theorem dOf_end (ps : List (List UInt8)) : dOf (ps ++ [[]]) = fnv (partsOf ps ++ [0, 0, 0, 0, 0, 0, 0, 0]) := by
  unfold dOf
  rw [partsOf_snoc]
  rfl

theorem texts_empty (w : World) : Texts (w.alloc (.cells #[] 9)) w.heap.size (.slice (some ⟨w.heap.size, 0, none⟩) 0 0) [] :=
  World.ownsRow_made (base := w.heap.size) (e := 9) (size := 1) w #[] 0 (Nat.le_refl _) (Nat.zero_le _) (by simp)
theorem Texts.form' {w : World} {base : Nat} {v : Value} {xs : List (List UInt8)} (h : Texts w base v xs) : ∃ a n c, v = .slice a n c := by
  obtain ⟨a, c, h, _⟩ := h.strs.form
  exact ⟨_, _, _, h⟩
theorem Texts.new {w w' : World} {base : Nat} {v : Value} {xs : List (List UInt8)} (h : Texts w base v xs) (hg : w.grownBy w' none) : Texts w' base v xs := by
  refine World.ownsRow.kept h hg ?_
  cases v.ownBlock <;> simp
theorem add_all (w : World) (l : List UInt8) (t : TypeId) (cs : Array Value) (hc : cs = (l.map u8v).toArray) (h : l.length ≤ maxLen) : Bts (w.alloc (.cells cs t)) (.slice (some ⟨w.heap.size, 0, none⟩) l.length l.length) l := by
  subst hc
  exact blk_bts (Blk.made w _ _) h


set_option maxRecDepth 10000 in
set_option maxHeartbeats 4000000 in
theorem of_law (ad : Option Addr) (c : Nat) (ps : List (List UInt8)) (w : World) (hv : Strs w (.slice ad ps.length c) ps) (hc : 0 < ps.length → ∃ b off, ad = some ⟨b, off, none⟩ ∧ ∀ i (h : i < ps.length), w.cell? ⟨b, off + i, none⟩ = some (.string ⟨ps[i].toArray⟩)) (hl : ps.length ≤ maxLen) (hp : ∀ p ∈ ps, p.length ≤ 140737488355328) :
    Calls Try.prog 9 #[.slice ad ps.length c] w (OK w) := by
  have HW := Lib.hid (fun w => awake_any w)
  have HC := Lib.hid hc
  have HP := Lib.hid hp
  have HV := Lib.hid hv
  have hm : (ps.length : Int) ≤ 9223372036854775807 := by unfold maxLen at hl; omega
  obtain ⟨n, hn⟩ : ∃ n, n = ps.length := ⟨_, rfl⟩
  have HN := Lib.hid hn
  rw [← hn] at hm HV ⊢
  clear hl hn hp hc hv
  go_enter Try.func9, Try.ntmps9
  go_wp2_with fail
  go_loop [3, 4] (fun t i => ∃ k : Nat, k ≤ n ∧ i = .int .i64 k ∧ t = .int .i64 (((partsOf (ps.take k)).length : Nat) : Int)) (fun _ i => n - (intOf i).toNat)
  case atStart => exact ⟨0, Nat.zero_le _, rfl, rfl⟩
  case round =>
    obtain ⟨k, hk, rfl, rfl⟩ := hrel
    by_cases c1 : (k : Int) < n
    · by_cases c2 : (((partsOf (ps.take k)).length : Nat) : Int) ≤ 10000
      · have hkl : k < ps.length := by rw [← HN.out]; omega
        obtain ⟨b, off, rfl, hcs⟩ := HC.out (by omega)
        have hcell := hcs k hkl
        have hpl := HP.out _ (List.getElem_mem hkl)
        have HS := Lib.hid (partsOf_len ps k hkl)
        generalize (partsOf (ps.take k)).length = t at *
        generalize ps[k] = p at *
        have hpl2 : (p.length : Int) ≤ 140737488355328 := by omega
        clear hpl hcs
        go_wp2_with fail
        go_round
        case rel => exact ⟨k + 1, by omega, by go_num, by rw [HS.out]; go_num⟩
        case measure => simp [intOf]; omega
      · have g1 : ¬ ((((partsOf (ps.take k)).length : Nat) : Int) ≤ 10000) := c2
        have g2 : decide (10000 < (((partsOf (ps.take k)).length : Nat) : Int)) = true := by simp; omega
        generalize (partsOf (ps.take k)).length = t at *
        clear c2
        go_wp2_with fail
        refine (HW.out _).mono ?_; rintro e u1 ⟨rfl, hg⟩
        have G := Lib.hid hg
        clear hg
        go_wp2_with fail
        go_ret
        exact ⟨rfl, G.out⟩
    · obtain rfl : k = n := by omega
      have hE : ps.take k = ps := List.take_of_length_le (by have := HN.out; omega)
      rw [hE]
      by_cases c2 : 10000 < (((partsOf ps).length : Nat) : Int)
      · have g2 : decide (10000 < (((partsOf ps).length : Nat) : Int)) = true := by simp; omega
        generalize (partsOf ps).length = t at *
        clear c2 hE
        go_wp2_with fail
        refine (HW.out _).mono ?_; rintro e u1 ⟨rfl, hg⟩
        have G := Lib.hid hg
        clear hg
        go_wp2_with fail
        go_ret
        exact ⟨rfl, G.out⟩
      · have g2 : decide (10000 < (((partsOf ps).length : Nat) : Int)) = false := by simp; omega
        have HT : Hid ((partsOf ps).length ≤ 10000) := Lib.hid (by omega)
        generalize (((partsOf ps).length : Nat) : Int) = t at *
        clear c2 hE
        go_wp2_with fail
        refine (HW.out _).mono ?_; rintro e u1 ⟨rfl, hg⟩
        have G := Lib.hid hg
        clear hg
        go_wp2_with fail
        go_loopw [5, 6] (fun s i w' => ∃ j : Nat, j ≤ k ∧ i = .int .i64 j ∧ s = .string ⟨(partsOf (ps.take j)).toArray⟩ ∧ w.grownBy w' none) (fun _ i w' => k - (intOf i).toNat)
        case atStart => exact ⟨0, Nat.zero_le _, rfl, rfl, G.out⟩
        case round =>
          obtain ⟨j, hj, rfl, rfl, hg⟩ := hrel
          have HG := Lib.hid hg
          clear hg
          by_cases c1 : (j : Int) < k
          · have hjl : j < ps.length := by rw [← HN.out]; omega
            have hle := partsOf_le ps (j + 1)
            have hst := partsOf_take ps j hjl
            have hln := partsOf_len ps j hjl
            obtain ⟨b, off, rfl, hcs⟩ := HC.out (by omega)
            have HCELL := Lib.hid (hcs j hjl)
            clear hcs
            have hT := HT.out
            obtain ⟨z, hz⟩ : ∃ z, partsOf (ps.take (j + 1)) = z := ⟨_, rfl⟩
            rw [hz] at hle hst hln
            have HZ := Lib.hid hz
            clear hz
            generalize partsOf (ps.take j) = y at *
            generalize ps[j] = p at *
            have hsm : p.length < 4294967296 := by omega
            have hw8 := word8_small p.length hsm
            have e1 := str_app y (word8 p.length)
            have e2 := str_app (y ++ word8 p.length) p
            rw [← hst] at e2
            have l1 : (y ++ word8 p.length).length = y.length + 8 := by rw [List.length_append, word8_len]
            have n1 : ¬ 9223372036854775807 < y.length + (word8 p.length).length := by rw [word8_len]; omega
            have n2 : ¬ 9223372036854775807 < y.length + (word8 p.length).length + p.length := by rw [word8_len]; omega
            have E := Lib.hid (And.intro e1 e2)
            have NN := Lib.hid (And.intro n1 n2)
            have q1 : (p.length : Int) ≤ 10000 := by omega
            have CB := Lib.hid ((add_all wr (word8 p.length) 5 _ rfl (show 8 ≤ maxLen by decide)).new (drew_grown _ _))
            have GB := Lib.hid (World.grownBy.trans (World.grownBy_alloc wr (.cells ((word8 p.length).map u8v).toArray 5) none) (drew_grown _ _))
            have KEEP : Hid (∀ w', wr.grownBy w' none → w'.cell? ⟨b, off + j, none⟩ = some (.string ⟨p.toArray⟩)) := Lib.hid (fun w' hg' => hg'.cell (HG.out.cell HCELL.out (by simp)) (by simp))
            have hcell := KEEP.out _ (World.grownBy.refl _ _)
            clear hle hst hln hT e1 e2 l1 n1 n2 hsm
            go_wp2_with fail
            clear hcell
            refine wp_region_noPanic ?_
            refine wp_region_held_drew (S := fun w' => w'.cell? ⟨b, off + j, none⟩ = some (.string ⟨p.toArray⟩)) (by kernel_rfl) (KEEP.out _ (drew_grown _ _)) (fun hHeld => ?_)
            have HG3 : Hid (wr.grownBy wr.drew none) := Lib.hid (drew_grown _ _)
            refine wpAnyH_take (i := 1) (v := ?_) (by simp only [List.getElem?_toArray, List.getElem?_cons_succ, List.getElem?_cons_zero]; rfl) (by kernel_rfl) (by kernel_rfl) (by kernel_rfl) (fun _ _ _ h => h) (Or.inl ⟨by rfl, ?_⟩) (by assumption) ?_
            rotate_left 1
            · intro w hSw; (try dsimp only at hSw); go_simp; all_goals (with_reducible rfl)
            try simp only [Act.put, List.setIfInBounds_toArray, List.set_cons_zero, List.set_cons_succ]
            refine wpAnyH_take (i := 4) (v := ?_) (by simp only [List.getElem?_toArray, List.getElem?_cons_succ, List.getElem?_cons_zero]; rfl) (by kernel_rfl) (by kernel_rfl) (by kernel_rfl) (fun _ _ _ h => h) (Or.inl ⟨by rfl, ?_⟩) (by assumption) ?_
            rotate_left 1
            · intro w hSw; (try dsimp only at hSw); go_simp; all_goals (with_reducible rfl)
            try simp only [Act.put, List.setIfInBounds_toArray, List.set_cons_zero, List.set_cons_succ]
            refine wpAnyH_take (i := 7) (v := ?_) (by simp only [List.getElem?_toArray, List.getElem?_cons_succ, List.getElem?_cons_zero]; rfl) (by kernel_rfl) (by kernel_rfl) (by kernel_rfl) (fun _ _ _ h => h) (Or.inl ⟨by rfl, ?_⟩) (by assumption) ?_
            rotate_left 1
            · intro w hSw; (try dsimp only at hSw); go_simp; all_goals (with_reducible rfl)
            try simp only [Act.put, List.setIfInBounds_toArray, List.set_cons_zero, List.set_cons_succ]
            refine wpAnyH_take (i := 10) (v := ?_) (by simp only [List.getElem?_toArray, List.getElem?_cons_succ, List.getElem?_cons_zero]; rfl) (by kernel_rfl) (by kernel_rfl) (by kernel_rfl) (fun _ _ _ h => h) (Or.inl ⟨by rfl, ?_⟩) (by assumption) ?_
            rotate_left 1
            · intro w hSw; (try dsimp only at hSw); go_simp; all_goals (with_reducible rfl)
            try simp only [Act.put, List.setIfInBounds_toArray, List.set_cons_zero, List.set_cons_succ]
            refine wpAnyH_take (i := 2) (v := ?_) (by simp only [List.getElem?_toArray, List.getElem?_cons_succ, List.getElem?_cons_zero]; rfl) (by kernel_rfl) (by kernel_rfl) (by kernel_rfl) (fun _ _ _ h => h) (Or.inl ⟨by rfl, ?_⟩) (by assumption) ?_
            rotate_left 1
            · intro w hSw; (try dsimp only at hSw); go_simp; all_goals (with_reducible rfl)
            try simp only [Act.put, List.setIfInBounds_toArray, List.set_cons_zero, List.set_cons_succ]
            refine wpAnyH_take (i := 3) (v := ?_) (by simp only [List.getElem?_toArray, List.getElem?_cons_succ, List.getElem?_cons_zero]; rfl) (by kernel_rfl) (by kernel_rfl) (by kernel_rfl) (fun _ _ _ h => h) (Or.inl ⟨by rfl, ?_⟩) (by assumption) ?_
            rotate_left 1
            · intro w hSw; (try dsimp only at hSw); go_simp; all_goals (with_reducible rfl)
            try simp only [Act.put, List.setIfInBounds_toArray, List.set_cons_zero, List.set_cons_succ]
            refine wpAnyH_take (i := 5) (v := ?_) (by simp only [List.getElem?_toArray, List.getElem?_cons_succ, List.getElem?_cons_zero]; rfl) (by kernel_rfl) (by kernel_rfl) (by kernel_rfl) (fun _ _ _ h => h) (Or.inl ⟨by rfl, ?_⟩) (by assumption) ?_
            rotate_left 1
            · intro w hSw; (try dsimp only at hSw); go_simp; all_goals (with_reducible rfl)
            try simp only [Act.put, List.setIfInBounds_toArray, List.set_cons_zero, List.set_cons_succ]
            refine wpAnyH_take (i := 6) (v := ?_) (by simp only [List.getElem?_toArray, List.getElem?_cons_succ, List.getElem?_cons_zero]; rfl) (by kernel_rfl) (by kernel_rfl) (by kernel_rfl) (fun _ _ _ h => h) (Or.inl ⟨by rfl, ?_⟩) (by assumption) ?_
            rotate_left 1
            · intro w hSw; (try dsimp only at hSw); go_simp; all_goals (with_reducible rfl)
            try simp only [Act.put, List.setIfInBounds_toArray, List.set_cons_zero, List.set_cons_succ]
            refine wpAnyH_take (i := 8) (v := ?_) (by simp only [List.getElem?_toArray, List.getElem?_cons_succ, List.getElem?_cons_zero]; rfl) (by kernel_rfl) (by kernel_rfl) (by kernel_rfl) (fun _ _ _ h => h) (Or.inl ⟨by rfl, ?_⟩) (by assumption) ?_
            rotate_left 1
            · intro w hSw; (try dsimp only at hSw); go_simp; all_goals (with_reducible rfl)
            try simp only [Act.put, List.setIfInBounds_toArray, List.set_cons_zero, List.set_cons_succ]
            refine wpAnyH_take (i := 9) (v := ?_) (by simp only [List.getElem?_toArray, List.getElem?_cons_succ, List.getElem?_cons_zero]; rfl) (by kernel_rfl) (by kernel_rfl) (by kernel_rfl) (fun _ _ _ h => h) (Or.inl ⟨by rfl, ?_⟩) (by assumption) ?_
            rotate_left 1
            · intro w hSw; (try dsimp only at hSw); go_simp; all_goals (with_reducible rfl)
            try simp only [Act.put, List.setIfInBounds_toArray, List.set_cons_zero, List.set_cons_succ]
            refine wpAnyH_take (i := 11) (v := ?_) (by simp only [List.getElem?_toArray, List.getElem?_cons_succ, List.getElem?_cons_zero]; rfl) (by kernel_rfl) (by kernel_rfl) (by kernel_rfl) (fun _ _ _ h => h) (Or.inl ⟨by rfl, ?_⟩) (by assumption) ?_
            rotate_left 1
            · intro w hSw; (try dsimp only at hSw); go_simp; all_goals (with_reducible rfl)
            try simp only [Act.put, List.setIfInBounds_toArray, List.set_cons_zero, List.set_cons_succ]
            refine wpAnyH_take (i := 15) (v := ?_) (by simp only [List.getElem?_toArray, List.getElem?_cons_succ, List.getElem?_cons_zero]; rfl) (by kernel_rfl) (by kernel_rfl) (by kernel_rfl) (fun _ _ _ h => h) (Or.inl ⟨by rfl, ?_⟩) (by assumption) ?_
            rotate_left 1
            · intro w hSw; (try dsimp only at hSw); go_simp; all_goals (with_reducible rfl)
            try simp only [Act.put, List.setIfInBounds_toArray, List.set_cons_zero, List.set_cons_succ]
            refine wpAnyH_take (i := 16) (v := ?_) (by simp only [List.getElem?_toArray, List.getElem?_cons_succ, List.getElem?_cons_zero]; rfl) (by kernel_rfl) (by kernel_rfl) (by kernel_rfl) (fun _ _ _ h => h) (Or.inl ⟨by rfl, ?_⟩) (by assumption) ?_
            rotate_left 1
            · intro w hSw; (try dsimp only at hSw); go_simp; all_goals (with_reducible rfl)
            try simp only [Act.put, List.setIfInBounds_toArray, List.set_cons_zero, List.set_cons_succ]
            refine wpAnyH_take (i := 17) (v := ?_) (by simp only [List.getElem?_toArray, List.getElem?_cons_succ, List.getElem?_cons_zero]; rfl) (by kernel_rfl) (by kernel_rfl) (by kernel_rfl) (fun _ _ _ h => h) (Or.inl ⟨by rfl, ?_⟩) (by assumption) ?_
            rotate_left 1
            · intro w hSw; (try dsimp only at hSw); go_simp; all_goals (with_reducible rfl)
            try simp only [Act.put, List.setIfInBounds_toArray, List.set_cons_zero, List.set_cons_succ]
            refine wpAnyH_take (i := 18) (v := ?_) (by simp only [List.getElem?_toArray, List.getElem?_cons_succ, List.getElem?_cons_zero]; rfl) (by kernel_rfl) (by kernel_rfl) (by kernel_rfl) (fun _ _ _ h => h) (Or.inl ⟨by rfl, ?_⟩) (by assumption) ?_
            rotate_left 1
            · intro w hSw; (try dsimp only at hSw); go_simp; all_goals (with_reducible rfl)
            try simp only [Act.put, List.setIfInBounds_toArray, List.set_cons_zero, List.set_cons_succ]
            refine wpAnyH_take (i := 0) (v := ?_) (by simp only [List.getElem?_toArray, List.getElem?_cons_zero]; rfl) (by kernel_rfl) (by kernel_rfl) (by kernel_rfl) (fun _ _ _ h => h) (Or.inl ⟨by rfl, ?_⟩) (by assumption) ?_
            rotate_left 1
            · intro w hSw; (try dsimp only at hSw); go_simp; all_goals (with_reducible rfl)
            try simp only [Act.put, List.setIfInBounds_toArray, List.set_cons_zero, List.set_cons_succ]
            refine wpAnyH_ready (rs := [12]) (by kernel_rfl) (by simp) ?_
            refine AllReadyH.cons (by simp only [List.getElem?_toArray, List.getElem?_cons_succ, List.getElem?_cons_zero]; rfl) (fun K hK => ?_) AllReadyH.nil
            go_simp
            have HG4 := Lib.hid GB.out
            have hcv := CB.out.str und22 und5 und9
            rw [word8_len] at hcv
            generalize (wr.alloc (.cells ((word8 p.length).map u8v).toArray 5)).drew = w4 at *
            clear hHeld GB CB
            generalize wr.heap.size = q at *
            have HCV := Lib.hid hcv
            clear hcv
            refine hK.out _ _ (KEEP.out _ HG4.out) (fun hHeld => ?_)
            clear hK K
            try simp only [Act.put, List.setIfInBounds_toArray, List.set_cons_zero, List.set_cons_succ]
            have hcv := HCV.out
            refine wpAnyH_ready (rs := [13]) (by kernel_rfl) (by simp) ?_
            refine AllReadyH.cons (by simp only [List.getElem?_toArray, List.getElem?_cons_succ, List.getElem?_cons_zero]; rfl) (fun K hK => ?_) AllReadyH.nil
            go_simp
            refine hK.out _ _ (KEEP.out _ HG4.out) (fun hHeld => ?_)
            clear hK K
            try simp only [Act.put, List.setIfInBounds_toArray, List.set_cons_zero, List.set_cons_succ]
            clear hcv HCV
            have n1 := NN.out.1
            have e1 := E.out.1
            refine wpAnyH_take (i := 14) (v := ?_) (by simp only [List.getElem?_toArray, List.getElem?_cons_succ, List.getElem?_cons_zero]; rfl) (by kernel_rfl) (by kernel_rfl) (by kernel_rfl) (fun _ _ _ h => h) (Or.inl ⟨by rfl, ?_⟩) (by assumption) ?_
            rotate_left 1
            · intro w hSw; (try dsimp only at hSw); go_simp; all_goals (with_reducible rfl)
            try simp only [Act.put, List.setIfInBounds_toArray, List.set_cons_zero, List.set_cons_succ]
            clear n1 e1
            have n2 := NN.out.2
            have e2 := E.out.2
            refine wpAnyH_take (i := 19) (v := ?_) (by simp only [List.getElem?_toArray, List.getElem?_cons_succ, List.getElem?_cons_zero]; rfl) (by kernel_rfl) (by kernel_rfl) (by kernel_rfl) (fun _ _ _ h => h) (Or.inl ⟨by rfl, ?_⟩) (by assumption) ?_
            rotate_left 1
            · intro w hSw; (try dsimp only at hSw); go_simp; all_goals (with_reducible rfl)
            try simp only [Act.put, List.setIfInBounds_toArray, List.set_cons_zero, List.set_cons_succ]
            clear n2 e2
            refine wpAnyH_ready (rs := [20]) (by kernel_rfl) (by simp) ?_
            refine AllReadyH.cons (by simp only [List.getElem?_toArray, List.getElem?_cons_succ, List.getElem?_cons_zero]; rfl) (fun K hK => ?_) AllReadyH.nil
            go_simp
            refine hK.out _ _ (KEEP.out _ HG4.out) (fun hHeld => ?_)
            clear hK K
            try simp only [Act.put, List.setIfInBounds_toArray, List.set_cons_zero, List.set_cons_succ]
            refine wpAnyH_done (by kernel_rfl) ?_ _
            refine NoPanic.normal ?_
            go_wp2_with fail
            go_roundw
            case rel => exact ⟨j + 1, by omega, by go_num, by rw [HZ.out], World.grownBy.trans HG.out HG4.out⟩
            case measure => simp [intOf]; omega
          · obtain rfl : j = k := by omega
            have hE2 : ps.take j = ps := List.take_of_length_le (by have := HN.out; omega)
            rw [hE2]
            have HOF := Lib.hid (fun v w (hv : Strs w v ps) => of_any ps v w hv HP.out (by have := partsOf_many ps; have := HT.out; omega))
            have HSU := Lib.hid (fun w => sum_any (partsOf ps) w (by have := HT.out; omega))
            have HOE := Lib.hid (fun v w (hv : Strs w v (ps ++ [[]])) => of_any (ps ++ [[]]) v w hv (by
              intro p hp
              rcases List.mem_append.1 hp with h | h
              · exact HP.out p h
              · simp at h; subst h; exact Nat.zero_le _) (by rw [List.length_append]; have := partsOf_many ps; have := HT.out; simp; omega))
            have HSE := Lib.hid (fun w => sum_any (partsOf ps ++ [0, 0, 0, 0, 0, 0, 0, 0]) w (by rw [List.length_append]; have := HT.out; simp; omega))
            rw [dOf_end] at HOE
            have e1 := str_app (partsOf ps) [0, 0, 0, 0, 0, 0, 0, 0]
            have n1 : ¬ 9223372036854775807 < (partsOf ps).length + 8 := by have := HT.out; omega
            have HPL : Hid (ps.length ≤ 10000) := Lib.hid (by have := partsOf_many ps; have := HT.out; omega)
            have hfo : dOf ps = fnv (partsOf ps) := rfl
            rw [hfo] at HOF
            generalize fnv (partsOf ps ++ [0, 0, 0, 0, 0, 0, 0, 0]) = fe at *
            generalize fnv (partsOf ps) = fo at *
            generalize partsOf ps ++ [0, 0, 0, 0, 0, 0, 0, 0] = pe at *
            generalize partsOf ps = pp at *
            clear hE2 hfo
            go_wp2_with fail
            refine (HOF.out _ _ (HV.out.new HG.out)).mono ?_; rintro e v1 ⟨rfl, hg⟩
            have G1 := Lib.hid (World.grownBy.trans HG.out hg)
            clear hg
            go_wp2_with fail
            refine (HSU.out _).mono ?_; rintro e v2 ⟨rfl, hg⟩
            have G2 := Lib.hid (World.grownBy.trans G1.out hg)
            have HTX := Lib.hid (texts_empty v2)
            have HVX := Lib.hid (HV.out.new (World.grownBy.trans G2.out (World.grownBy_alloc v2 (.cells #[] 9) none)))
            have GA := Lib.hid (World.grownBy.trans G2.out (World.grownBy_alloc v2 (.cells #[] 9) none))
            have HSZ : Hid (w.heap.size ≤ v2.heap.size ∧ v2.heap.size ≤ (v2.alloc (.cells #[] 9)).heap.size) := Lib.hid ⟨G2.out.size, (World.grownBy_alloc v2 (.cells #[] 9) none).size⟩
            clear hg
            go_wp2_with (at_builtin; refine wpList_free (by first | rfl | (simp [Region.wanted, yielded]; done)) ?_; dsimp only; first | (refine wpList_append_txt rfl _ _ rfl v2.heap.size _ _ [] ps rfl rfl HTX.out HVX.out (by have := HPL.out; simp; omega) HSZ.out.2 ?_; rintro v5 w5 ⟨h6, h7, h8⟩; obtain ⟨a5, c5, rfl, _⟩ := h6.strs.form; rw [List.nil_append] at h6 ⊢; have H6 := Lib.hid h6; have H7 := Lib.hid (grown_own GA.out h7 (fun n hn => Nat.le_trans HSZ.out.1 (HTX.out.lt n hn).1)); have HT6 := Lib.hid (Texts.new h6 (World.grownBy_alloc w5 (.cells #[.string ⟨#[]⟩] 9) none)); have HS6 := Lib.hid (one_strs w5 []); have H9 := Lib.hid (Nat.le_trans (Nat.le_trans HSZ.out.2 h7.size) (World.grownBy_alloc w5 (.cells #[.string ⟨#[]⟩] 9) none).size); have HLT := Lib.hid (fun n hn => Nat.le_trans HSZ.out.1 (h6.lt n hn).1); clear h6 h7 h8) | (refine wpList_append_txt rfl _ _ rfl v2.heap.size _ _ ps [[]] rfl rfl HT6.out HS6.out (by have := HPL.out; simp; omega) H9.out ?_; rintro v7 w7 ⟨h6, h7, h8⟩; obtain ⟨a7, c7, rfl, _⟩ := h6.strs.form; have HS7 := Lib.hid h6.strs; have G7 := Lib.hid (grown_own (World.grownBy.trans H7.out (World.grownBy_alloc w5 (.cells #[.string ⟨#[]⟩] 9) none)) h7 HLT.out); clear h6 h7 h8))
            have hs7 := HS7.out
            rw [show (ps ++ [([] : List UInt8)]).length = ps.length + 1 by simp] at hs7
            refine (HOE.out _ _ hs7).mono ?_; rintro e v3 ⟨rfl, hg⟩
            have G8 := Lib.hid (World.grownBy.trans G7.out hg)
            clear hg hs7
            go_wp2_with fail
            refine (HSE.out _).mono ?_; rintro e v4 ⟨rfl, hg⟩
            have G9 := Lib.hid (World.grownBy.trans G8.out hg)
            clear hg
            go_wp2_with fail
            go_ret
            exact ⟨rfl, G9.out⟩

theorem of_walk (v : Value) (w : World) (h : ∃ xs : List (List UInt8), Strs w v xs ∧ ∀ x ∈ xs, x.length ≤ 140737488355328) : Calls Try.prog 9 #[v] w (OK w) := by
  obtain ⟨ps, hv, hp⟩ := h
  obtain ⟨a, c, rfl, h1, h2⟩ := hv.form
  refine of_law a c ps w hv (fun h0 => ?_) (Nat.le_trans h1 h2) hp
  obtain ⟨b, o, c', he, hc⟩ := hv.at h0
  cases he
  exact ⟨b, o, rfl, hc⟩
end Go.Proofs.Ytdicoojodefacaa
