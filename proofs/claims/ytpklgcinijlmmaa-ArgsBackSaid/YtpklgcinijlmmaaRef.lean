/- The document's answers of layer 1: the writers. -/
import Derived.Test.YtpklgcinijlmmaaPure
import Derived.Lib.AppendStr
import Derived.LoopTactic
namespace Go.Proofs.Ytpklgcinijlmmaa
open Go.RowKit

/-- What the first steps of taking a number apart leave. -/
theorem pow_step (n j : Nat) : n / 256 ^ j / 256 = n / 256 ^ (j + 1) := by rw [Nat.div_div_eq_div_mul, ← Nat.pow_succ]

theorem word4_at (n t : Nat) (h : t < 4) : (word4 n).take (t + 1) = (word4 n).take t ++ [UInt8.ofNat (n / 256 ^ (3 - t))] := by
  match t, h with
  | 0, _ => rfl
  | 1, _ => rfl
  | 2, _ => rfl
  | 3, _ => simp [word4]

theorem bts_one (w : World) (t : TypeId) (y : UInt8) : Bts (w.alloc (.cells #[.int .u8 (y.toNat : Int)] t)) (.slice (some ⟨w.heap.size, 0, none⟩) 1 1) [y] := by
  refine .inr (.inl ⟨w.heap.size, 0, 1, rfl, Nat.le_refl _, by unfold maxLen; omega, fun i hi => ?_⟩)
  match i, hi with
  | 0, _ => simp

theorem copy_nil (w : World) : Own (w.alloc (.cells #[] 5)) w.heap.size (.slice (some ⟨w.heap.size, 0, none⟩) 0 0) [] := World.ownsRow_made w #[] 0 (Nat.le_refl _) (Nat.zero_le _) (by simp)

set_option maxRecDepth 10000 in
set_option maxHeartbeats 1000000 in
theorem refWord_any (v : Value) (bs : List UInt8) (n : Nat) (w : World) (hv : Bts w v bs) (hl : bs.length ≤ 100000000000) (hn : n < 4294967296) :
    Calls Try.prog 57 #[v, .int .u32 (n : Int)] w (New w (bs ++ word4 n)) := by
  have HO := Lib.hid (copy_nil w)
  have HB := Lib.hid (hv.new (World.grownBy_alloc w (.cells #[] 5) none))
  have HL : Hid (([] : List UInt8).length + bs.length ≤ 140737488355328) := Lib.hid (by simp; omega)
  have HLL := Lib.hid hl
  obtain ⟨a, m, c, rfl⟩ := hv.shape
  have hn2 : (n : Int) < 4294967296 := by omega
  have HN := Lib.hid hn
  clear hv hl hn
  go_enter Try.func57, Try.ntmps57
  go_wp2_with (at_builtin; refine wpList_append_bts rfl _ _ rfl _ _ _ _ _ rfl rfl HO.out HB.out HL.out (by simp) ?_; rintro v5 w5 ⟨h6, h7, h8⟩; obtain ⟨a5, n5, c5, rfl⟩ := h6.bts.shape; have H6 := Lib.hid h6; have H7 := Lib.hid h7; clear h6 h7 h8)
  have HG : Hid (w.grownBy w5 none) := Lib.hid (grown_own (World.grownBy_alloc _ _ _) H7.out (fun m hm => by cases hm; exact Nat.le_refl _))
  clear H7 HB
  go_loopw [5, 6] (fun b i w' => ∃ t : Nat, t ≤ 4 ∧ i = .int .i64 (3 - (t : Int)) ∧ Own w' w.heap.size b (bs ++ (word4 n).take t) ∧ w.grownBy w' none) (fun _ i w' => (intOf i + 1).toNat)
  case atStart => exact ⟨0, by omega, by go_num, by have := H6.out; simpa using this, HG.out⟩
  case round =>
    clear H6 HG
    obtain ⟨t, ht, rfl, hown, hg⟩ := hrel
    obtain ⟨a6, n6, c6, rfl⟩ := hown.bts.shape
    have HOW := Lib.hid hown; have HG := Lib.hid hg; clear hown hg
    by_cases hlt : t < 4
    · have e3 : (3 : Int) - (t : Int) = ((3 - t : Nat) : Int) := by omega
      rw [e3]
      clear e3
      have HT := Lib.hid (word4_at n t hlt)
      have HI : Hid ((((3 - t : Nat) : Int)) - 1 = 3 - ((t + 1 : Nat) : Int)) := Lib.hid (by omega)
      have hi3 : 3 - t ≤ 3 := by omega
      have HLT := Lib.hid hlt
      clear hlt ht
      generalize 3 - t = i at *
      go_wp2_with fail
      obtain ⟨w6, rfl⟩ : ∃ wo : World, wo = wr := ⟨_, rfl⟩
      go_loop [7, 8] (fun k j => ∃ q : Nat, q ≤ i ∧ j = .int .i64 q ∧ k = .int .u32 ((n / 256 ^ q : Nat) : Int)) (fun _ j => i - (intOf j).toNat)
      case atStart => exact ⟨0, by omega, rfl, by simp⟩
      case round =>
        obtain ⟨q, hq, rfl, rfl⟩ := hrel
        have HP := Lib.hid (pow_step n q)
        have hk : n / 256 ^ q < 4294967296 := Nat.lt_of_le_of_lt (Nat.div_le_self _ _) HN.out
        by_cases hlq : q < i
        · generalize n / 256 ^ q = k at *
          go_wp2
          go_round
          case rel => exact ⟨q + 1, by omega, by go_num, by rw [← HP.out]; go_num⟩
          case measure => simp [intOf]; omega
        · obtain rfl : i = q := by omega
          generalize n / 256 ^ i = k at *
          clear hlq HP
          have ek : ((k : Int) % 256) = ((UInt8.ofNat k).toNat : Int) := by rw [UInt8.toNat_ofNat']; omega
          generalize UInt8.ofNat k = y at *
          have HL2 : Hid (Fit (bs ++ (word4 n).take t) [y]) := Lib.hid (by have := HLL.out; have h4 := List.length_take_le t (word4 n); have := HLT.out; unfold Fit; simp only [List.length_append, List.length_singleton]; omega)
          have HO1 := Lib.hid (HOW.out.new (World.grownBy_alloc w6 (.cells #[.int .u8 (y.toNat : Int)] 5) none))
          have HB1 := Lib.hid (bts_one w6 5 y)
          have HS1 : Hid (w.heap.size ≤ (w6.alloc (.cells #[.int .u8 (y.toNat : Int)] 5)).heap.size) := Lib.hid (by have := HG.out.size; simp; omega)
          go_wp2_with (at_builtin; refine wpList_append_bts rfl _ _ rfl _ _ _ _ _ rfl rfl HO1.out HB1.out HL2.out HS1.out ?_; rintro v7 w7 ⟨h6, h7, h8⟩; obtain ⟨a7, n7, c7, rfl⟩ := h6.bts.shape; have H6 := Lib.hid h6; have H7 := Lib.hid h7; clear h6 h7 h8)
          clear ek
          go_roundw
          case rel =>
            refine ⟨t + 1, by have := HLT.out; omega, by rw [HI.out], ?_, grown_own HG.out (World.grownBy.trans (World.grownBy_alloc _ _ _) H7.out) (fun m hm => (HOW.out.lt m hm).1)⟩
            rw [HT.out, ← List.append_assoc]
            exact H6.out
          case measure => simp [intOf]
    · obtain rfl : t = 4 := by omega
      clear hlt
      have HF : Hid (Own wr w.heap.size (.slice a6 n6 c6) (bs ++ word4 n)) := Lib.hid HOW.out
      clear HOW
      go_wp2_with fail
      go_ret
      exact ⟨_, rfl, HF.out, HG.out⟩

set_option maxRecDepth 20000 in
set_option maxHeartbeats 400000 in
theorem refLong_any (v : Value) (bs : List UInt8) (n : Nat) (w : World) (hv : Bts w v bs) (hl : bs.length ≤ 1000000000) (hn : n < 18446744073709551616) :
    Calls Try.prog 47 #[v, .int .u64 (n : Int)] w (New w (bs ++ longB n)) := by
  have HW := Lib.hid (refWord_any v bs (n / 4294967296) w hv (by omega) (by omega))
  rw [show ((n / 4294967296 : Nat) : Int) = (n : Int) / 4294967296 by omega] at HW
  obtain ⟨a, m, c, rfl⟩ := hv.shape
  have hn2 : (n : Int) ≤ 18446744073709551615 := by omega
  have HN := Lib.hid hn
  have HLL := Lib.hid hl
  clear hv hl hn
  go_enter Try.func47, Try.ntmps47
  go_wp2_with fail
  refine HW.out.mono ?_; rintro e w2 ⟨v2, rfl, h1, h2⟩
  obtain ⟨a2, n2, c2, rfl⟩ := h1.bts.shape
  have HX := Lib.hid (refWord_any _ _ (n % 4294967296) w2 h1.bts (by have := HLL.out; simp [word4]; omega) (by omega))
  rw [show ((n % 4294967296 : Nat) : Int) = (n : Int) % 4294967296 by omega] at HX
  have H2 := Lib.hid h2
  clear h1 h2
  go_wp2_with fail
  refine HX.out.mono ?_; rintro e w3 ⟨v3, rfl, h1, h3⟩
  obtain ⟨a3, n3, c3, rfl⟩ := h1.bts.shape
  rw [List.append_assoc] at h1
  have H1 := Lib.hid (h1.base H2.out.size); have H3 := Lib.hid h3
  clear h1 h3
  go_wp2_with fail
  go_ret
  exact ⟨_, rfl, H1.out, World.grownBy.trans H2.out H3.out⟩

set_option maxRecDepth 20000 in
set_option maxHeartbeats 400000 in
theorem refInt_any (v : Value) (bs : List UInt8) (n : Int) (w : World) (hv : Bts w v bs) (hl : bs.length ≤ 1000000000) :
    Calls Try.prog 48 #[v, .int .i64 n] w (New w (bs ++ longB (bits64 n))) := by
  have HE : Hid (IntKind.u64.wrap n = (bits64 n : Int)) := Lib.hid (by unfold bits64; rw [IntKind.wrap_u64]; omega)
  have HW := Lib.hid (refLong_any v bs (bits64 n) w hv (by omega) (by unfold bits64; omega))
  obtain ⟨a, m, c, rfl⟩ := hv.shape
  clear hv hl
  go_enter Try.func48, Try.ntmps48
  go_wp2_with fail
  rw [HE.out]
  refine HW.out.mono ?_; rintro e w3 ⟨v3, rfl, h1, h3⟩
  obtain ⟨a3, n3, c3, rfl⟩ := h1.bts.shape
  have H1 := Lib.hid h1; have H3 := Lib.hid h3
  clear h1 h3
  go_wp2_with fail
  go_ret
  exact ⟨_, rfl, H1.out, H3.out⟩

set_option maxRecDepth 20000 in
set_option maxHeartbeats 400000 in
theorem refFlag_any (v : Value) (bs : List UInt8) (b : Bool) (w : World) (hv : Bts w v bs) (hl : bs.length ≤ 1000000000) :
    Calls Try.prog 60 #[v, .bool b] w (New w (bs ++ flagB b)) := by
  have HW := Lib.hid (refWord_any v bs (if b then 1 else 0) w hv (by omega) (by cases b <;> simp))
  obtain ⟨a, m, c, rfl⟩ := hv.shape
  clear hv hl
  unfold flagB
  cases b
  all_goals
    go_enter Try.func60, Try.ntmps60
    go_wp2_with fail
    refine HW.out.mono ?_; rintro e w3 ⟨v3, rfl, h1, h3⟩
    obtain ⟨a3, n3, c3, rfl⟩ := h1.bts.shape
    have H1 := Lib.hid h1; have H3 := Lib.hid h3
    clear h1 h3
    go_wp2_with fail
    go_ret
    exact ⟨_, rfl, H1.out, H3.out⟩

theorem strCells_eq (s : ByteArray) : Lib.strCells s = s.data.toList.map u8v := rfl

/-- append(s, x...) of a text to bytes of the call's own. -/
theorem wpList_append_txt {w : World} {ops : Array Oper} {rest : List Oper} {o : Oper} {a : Act} {Q : Exit → Act → World → Prop} (hgd : o.guard = none) (s x : Operand)
    (ho : o.op = .call { callee := .builtin .append, args := #[s, x], argTypes := #[55, 9] })
    (base : Nat) (v : Value) (bs : List UInt8) (t : ByteArray) (hs : a.eval s = v) (hx : a.eval x = .string t) (hown : Own w base v bs)
    (hn : bs.length + t.size ≤ 140737488355328) (hbase : base ≤ w.heap.size)
    (h : ∀ v' w', Own w' base v' (bs ++ t.data.toList) → w.grownBy w' v.ownBlock → wpList Try.prog ops Q rest (a.put o.dst v') w') : wpList Try.prog ops Q (o :: rest) a w := by
  obtain ⟨i, hi, hz0, hz1, hz2⟩ := info_parts inf5
  refine Lib.wpList_append_own_string (w := w) hgd s x _ _ ho base _ i und22 und9 hi hz0 hz1 hz2 v bs.length (bs.map u8v) hs hown t hx (by unfold maxLen; omega) hn hbase fun v' w' k1 k2 _ => h v' w' ?_ k2
  unfold Own
  rw [List.length_append, List.map_append]
  rw [strCells_eq] at k1
  have e : t.data.toList.length = t.size := by simp
  rw [e]
  exact k1

set_option maxRecDepth 10000 in
set_option maxHeartbeats 1000000 in
theorem refFixed_any (v : Value) (bs : List UInt8) (s : ByteArray) (w : World) (hv : Bts w v bs) (hl : bs.length ≤ 100000000000) (hs : s.size ≤ 100000000000) :
    Calls Try.prog 92 #[v, .string s] w (New w (bs ++ fixedB s.data.toList)) := by
  have HO := Lib.hid (copy_nil w)
  have HB := Lib.hid (hv.new (World.grownBy_alloc w (.cells #[] 5) none))
  have HL : Hid (([] : List UInt8).length + bs.length ≤ 140737488355328) := Lib.hid (by simp; omega)
  have HL2 : Hid (([] ++ bs).length + s.size ≤ 140737488355328) := Lib.hid (by simp; omega)
  have HLL := Lib.hid hl
  have HSS := Lib.hid hs
  have zs : s.data.toList.length = s.size := by simp
  have HFB : Hid (fixedB s.data.toList = s.data.toList ++ List.replicate (pad s.size) 0) := Lib.hid (by unfold fixedB; rw [zs])
  have hp := pad_le s.size
  have HPM := Lib.hid (pad_mod s.size)
  have HPD : Hid (∀ t, t < pad s.size → (s.size + t) % 4 ≠ 0) := Lib.hid (fun t ht => by unfold pad at ht; omega)
  obtain ⟨a, m, c, rfl⟩ := hv.shape
  clear hv hl zs
  go_enter Try.func92, Try.ntmps92
  go_wp2_with (first
    | (at_builtin; refine wpList_append_bts rfl _ _ rfl _ _ _ _ _ rfl rfl HO.out HB.out HL.out (by simp) ?_; rintro v5 w5 ⟨h6, h7, h8⟩; obtain ⟨a5, n5, c5, rfl⟩ := h6.bts.shape; have H6 := Lib.hid h6; have H7 := Lib.hid h7; clear h6 h7 h8)
    | (at_builtin; refine wpList_append_txt rfl _ _ rfl _ _ _ s rfl rfl H6.out HL2.out (by have := H7.out.size; simp at this; omega) ?_; rintro v8 w8 h9 h10; obtain ⟨a8, n8, c8, rfl⟩ := h9.bts.shape; have H9 := Lib.hid h9; have H10 := Lib.hid h10; clear h9 h10))
  have HG : Hid (w.grownBy w8 none) := Lib.hid (grown_own (grown_own (World.grownBy_alloc _ _ _) H7.out (fun m hm => by cases hm; exact Nat.le_refl _)) H10.out (fun m hm => (H6.out.lt m hm).1))
  clear H7 HB H10 H6 HO HL HL2
  go_loopw [5, 6] (fun b i w' => ∃ t : Nat, t ≤ pad s.size ∧ i = .int .i64 ((s.size + t : Nat) : Int) ∧ Own w' w.heap.size b (bs ++ (s.data.toList ++ List.replicate t 0)) ∧ w.grownBy w' none) (fun _ i w' => (s.size + 4 - (intOf i).toNat))
  case atStart => exact ⟨0, Nat.zero_le _, by go_num, by have := H9.out; simpa using this, HG.out⟩
  case round =>
    clear H9 HG
    obtain ⟨t, ht, rfl, hown, hg⟩ := hrel
    obtain ⟨a6, n6, c6, rfl⟩ := hown.bts.shape
    have HOW := Lib.hid hown; have HG := Lib.hid hg; clear hown hg
    by_cases hlt : t < pad s.size
    · have hb : (((s.size + t : Nat) : Int) % 4 != 0) = true := by rw [bne_iff_ne]; have := HPD.out t hlt; omega
      have HK : Hid (s.size + t + 1 = s.size + (t + 1)) := Lib.hid (by omega)
      have hk : s.size + t ≤ s.size + 2 := by omega
      have hk2 : s.size ≤ s.size + t := by omega
      generalize s.size + t = k at *
      have HL2 : Hid (Fit (bs ++ (s.data.toList ++ List.replicate t 0)) [0]) := Lib.hid (by have := HLL.out; have := HSS.out; have zs : s.data.toList.length = s.size := (by simp); unfold Fit; simp only [List.length_append, List.length_replicate, List.length_singleton, zs]; omega)
      have HO1 := Lib.hid (HOW.out.new (World.grownBy_alloc wr (.cells #[.int .u8 0] 5) none))
      have HB1 := Lib.hid (bts_one wr 5 0)
      have HS1 : Hid (w.heap.size ≤ (wr.alloc (.cells #[.int .u8 0] 5)).heap.size) := Lib.hid (by have := HG.out.size; simp; omega)
      go_wp2_with (at_builtin; refine wpList_append_bts rfl _ _ rfl _ _ _ _ _ rfl rfl HO1.out HB1.out HL2.out HS1.out ?_; rintro v7 w7 ⟨h6, h7, h8⟩; obtain ⟨a7, n7, c7, rfl⟩ := h6.bts.shape; have H6 := Lib.hid h6; have H7 := Lib.hid h7; clear h6 h7 h8)
      clear hb
      go_roundw
      case rel =>
        refine ⟨t + 1, by omega, by rw [← HK.out]; go_num, ?_, grown_own HG.out (World.grownBy.trans (World.grownBy_alloc _ _ _) H7.out) (fun m hm => (HOW.out.lt m hm).1)⟩
        have h := H6.out
        rw [List.append_assoc, List.append_assoc] at h
        rw [List.replicate_succ']
        exact h
      case measure => simp [intOf]; omega
    · obtain rfl : t = pad s.size := by omega
      have hb : (((s.size + pad s.size : Nat) : Int) % 4 != 0) = false := by rw [bne_eq_false_iff_eq]; have := HPM.out; omega
      have HF : Hid (Own wr w.heap.size (.slice a6 n6 c6) (bs ++ fixedB s.data.toList)) := Lib.hid (by rw [HFB.out]; exact HOW.out)
      have hk : s.size + pad s.size ≤ s.size + 3 := by omega
      clear hlt HOW ht HFB HPM HPD hp
      generalize s.size + pad s.size = k at *
      go_wp2_with fail
      go_ret
      exact ⟨_, rfl, HF.out, HG.out⟩

set_option maxRecDepth 20000 in
set_option maxHeartbeats 400000 in
theorem refText_any (v : Value) (bs : List UInt8) (s : ByteArray) (w : World) (hv : Bts w v bs) (hl : bs.length ≤ 1000000000) (hs : s.size ≤ 1000000000) :
    Calls Try.prog 46 #[v, .string s] w (New w (bs ++ textB s.data.toList)) := by
  have HW := Lib.hid (refWord_any v bs s.size w hv (by omega) (by omega))
  have hz : s.data.toList.length = s.size := by simp
  have HE : Hid ((bs ++ word4 s.size) ++ fixedB s.data.toList = bs ++ textB s.data.toList) := Lib.hid (by unfold textB; rw [hz]; simp)
  obtain ⟨a, m, c, rfl⟩ := hv.shape
  have HLL := Lib.hid hl
  have HS := Lib.hid hs
  clear hv hl hz
  go_enter Try.func46, Try.ntmps46
  go_wp2_with fail
  refine HW.out.mono ?_; rintro e w2 ⟨v2, rfl, h1, h2⟩
  obtain ⟨a2, n2, c2, rfl⟩ := h1.bts.shape
  have HX := Lib.hid (refFixed_any _ _ s w2 h1.bts (by have := HLL.out; simp [word4]; omega) (by have := HS.out; omega))
  have H2 := Lib.hid h2
  clear h1 h2
  go_wp2_with fail
  refine HX.out.mono ?_; rintro e w3 ⟨v3, rfl, h1, h3⟩
  obtain ⟨a3, n3, c3, rfl⟩ := h1.bts.shape
  rw [HE.out] at h1
  have H1 := Lib.hid (h1.base H2.out.size); have H3 := Lib.hid h3
  clear h1 h3
  go_wp2_with fail
  go_ret
  exact ⟨_, rfl, H1.out, World.grownBy.trans H2.out H3.out⟩
end Go.Proofs.Ytpklgcinijlmmaa
