/- The document's own reader: Told. -/
import Derived.Test.YtahmpgaohjopeaaMsB
import Derived.Test.YtahmpgaohjopeaaRefW
namespace Go.Proofs.Ytahmpgaohjopeaa
open Go.RowKit

/-- The number of four bytes, put together one by one. -/
def acc4 (a b c d : UInt8) : Nat → Int
  | 0 => 0
  | 1 => a.toNat
  | 2 => a.toNat * 256 + b.toNat
  | 3 => (a.toNat * 256 + b.toNat) * 256 + c.toNat
  | _ => ((a.toNat * 256 + b.toNat) * 256 + c.toNat) * 256 + d.toNat

theorem acc4_end (a b c d : UInt8) : acc4 a b c d 4 = (headN [a, b, c, d] : Nat) := by
  rw [← headN_num]
  simp only [acc4, num4]
  omega

/-- Where the document's reader stands: between two fragments. -/
def mid (record : List UInt8) (came : Nat) : Ms := ⟨[], 0, false, record, came, false⟩

/-- Three ways on, at a fragment's number. -/
theorem mid_shut (record : List UInt8) (came : Nat) (a b c d : UInt8) (l : List UInt8) (h : 4096 - record.length < headN [a, b, c, d] % 2147483648) : (mid record came).run (a :: b :: c :: d :: l) = (.dead, []) := by
  have ho : (⟨[] ++ [a, b, c, d], 0, false, record, came + 4, false⟩ : Ms).opened (headN ([] ++ [a, b, c, d])) = .dead := if_pos h
  have hr := Ms.run_open (mid record came) [a, b, c, d] rfl rfl (by simp) .dead ho.symm
  have hr' : (mid record came).run [a, b, c, d] = (.dead, []) := hr
  rw [show a :: b :: c :: d :: l = [a, b, c, d] ++ l from rfl, Ms.run_append, hr']
  simp only [Ms.run_shut .dead l rfl]
  rfl

theorem mid_opened (record : List UInt8) (came : Nat) (a b c d : UInt8) (h : headN [a, b, c, d] % 2147483648 ≤ 4096 - record.length) :
    (⟨[] ++ [a, b, c, d], 0, false, record, came + 4, false⟩ : Ms).opened (headN ([] ++ [a, b, c, d])) = ⟨[a, b, c, d], headN [a, b, c, d] % 2147483648, decide (2147483648 ≤ headN [a, b, c, d]), record, came + 4, false⟩ := by
  unfold Ms.opened
  rw [if_neg (by dsimp only [List.nil_append]; omega)]
  rfl

theorem mid_whole (record x : List UInt8) (came : Nat) (a b c d : UInt8) (h : headN [a, b, c, d] % 2147483648 ≤ 4096 - record.length) (hx : x.length = headN [a, b, c, d] % 2147483648) :
    (mid record came).run (a :: b :: c :: d :: x) = if 2147483648 ≤ headN [a, b, c, d] then (.new, [record ++ x]) else (mid (record ++ x) (came + (4 + x.length)), []) := by
  have hr := Ms.run_open (mid record came) [a, b, c, d] rfl rfl (by simp) _ (mid_opened record came a b c d h).symm
  rw [show a :: b :: c :: d :: x = [a, b, c, d] ++ x from rfl, Ms.run_append, hr]
  dsimp only
  rw [if_neg (by simp)]
  by_cases h0 : headN [a, b, c, d] % 2147483648 = 0
  · rw [if_pos h0]
    obtain rfl : x = [] := List.eq_nil_of_length_eq_zero (by omega)
    unfold Ms.done mid
    by_cases hl : 2147483648 ≤ headN [a, b, c, d]
    · simp [hl, Ms.run]
    · simp [hl, Ms.run]
  · rw [if_neg h0]
    dsimp only
    rw [Ms.run_whole _ x rfl rfl hx (fun e => by rw [e] at hx; simp at hx; omega)]
    unfold Ms.done mid
    by_cases hl : 2147483648 ≤ headN [a, b, c, d]
    · simp [hl]
    · simp [hl, Nat.add_assoc]

theorem mid_part (record x : List UInt8) (came : Nat) (a b c d : UInt8) (h : headN [a, b, c, d] % 2147483648 ≤ 4096 - record.length) (hx : x.length < headN [a, b, c, d] % 2147483648) :
    ((mid record came).run (a :: b :: c :: d :: x)).1.shut = false ∧ ((mid record came).run (a :: b :: c :: d :: x)).1.came = came + (4 + x.length) ∧ ((mid record came).run (a :: b :: c :: d :: x)).2 = [] := by
  have hr := Ms.run_open (mid record came) [a, b, c, d] rfl rfl (by simp) _ (mid_opened record came a b c d h).symm
  rw [show a :: b :: c :: d :: x = [a, b, c, d] ++ x from rfl, Ms.run_append, hr]
  dsimp only
  rw [if_neg (by simp), if_neg (by omega)]
  dsimp only
  rw [Ms.run_part _ x rfl rfl hx]
  exact ⟨rfl, by dsimp only; omega, rfl⟩

theorem mid_short (record x : List UInt8) (came : Nat) (hx : x.length < 4) : (mid record came).run x = (⟨x, 0, false, record, came + x.length, false⟩, []) := Ms.run_head (mid record came) x rfl (by simpa [mid] using hx)

theorem drop_four (l : List UInt8) (k : Nat) (h : k + 4 ≤ l.length) : ∃ a b c d rest, l.drop k = a :: b :: c :: d :: rest := by
  have hl : (l.drop k).length = l.length - k := List.length_drop
  match hd : l.drop k with
  | [] => rw [hd] at hl; simp at hl; omega
  | [_] => rw [hd] at hl; simp at hl; omega
  | [_, _] => rw [hd] at hl; simp at hl; omega
  | [_, _, _] => rw [hd] at hl; simp at hl; omega
  | a :: b :: c :: d :: rest => exact ⟨a, b, c, d, rest, rfl⟩

theorem acc_next (a b c d : UInt8) (j : Nat) (hj : j < 4) (x : UInt8) (hx : [a, b, c, d][j]? = some x) : Value.int IntKind.i64 (wrap64 (wrap64 (acc4 a b c d j * 256) + wrap64 (x.toNat : Int))) = Value.int IntKind.i64 (acc4 a b c d (j + 1)) := by
  have ha := a.toNat_lt; have hb := b.toNat_lt; have hc := c.toNat_lt; have hd := d.toNat_lt
  congr 1
  match j, hj with
  | 0, _ => obtain rfl : a = x := by simpa using hx
            simp only [acc4, wrap64]; omega
  | 1, _ => obtain rfl : b = x := by simpa using hx
            simp only [acc4, wrap64]; omega
  | 2, _ => obtain rfl : c = x := by simpa using hx
            simp only [acc4, wrap64]; omega
  | 3, _ => obtain rfl : d = x := by simpa using hx
            simp only [acc4, wrap64]; omega

/-- What Told answers. -/
def ToldR (w : World) (l : List UInt8) (e : Ending) (w' : World) : Prop :=
  ∃ a k whole, e = .returned (.tuple #[.slice a (Ms.new.run l).2.length k, .int .i64 whole, .bool (Ms.new.run l).1.shut]) ∧ Texts w' w.heap.size (.slice a (Ms.new.run l).2.length k) (Ms.new.run l).2 ∧ w.grownBy w' none ∧
    ((Ms.new.run l).1.shut = false → whole = (l.length : Int) - (Ms.new.run l).1.came) ∧ 0 ≤ whole ∧ whole ≤ l.length

theorem run_full {l rest : List UInt8} {k came : Nat} {record : List UInt8} {recs : List (List UInt8)} {a b c d : UInt8} {q : Ms × List (List UInt8)} (h : Ms.new.run (l.take k) = (mid record came, recs)) (hd : l.drop k = a :: b :: c :: d :: rest) (hq : (mid record came).run (a :: b :: c :: d :: rest) = q) : Ms.new.run l = (q.1, recs ++ q.2) := by
  conv => lhs; rw [← List.take_append_drop k l]
  rw [Ms.run_append, h, hd, hq]

theorem rest_len {s : ByteArray} {k : Nat} {a b c d : UInt8} {rest : List UInt8} (hd : s.data.toList.drop k = a :: b :: c :: d :: rest) (hk : k ≤ s.size) : rest.length + 4 + k = s.size := by
  have := congrArg List.length hd
  simp at this
  omega

theorem ext_mid {s : ByteArray} {k n : Nat} {e : Int} {record rest : List UInt8} {a b c d : UInt8} (hd : s.data.toList.drop k = a :: b :: c :: d :: rest) (he : e.toNat = k + 4 + n) : (⟨record.toArray⟩ : ByteArray) ++ s.extract (k + 4) e.toNat = ⟨(record ++ rest.take n).toArray⟩ := by
  rw [ba_app, he]
  congr 3
  have h2 : rest = s.data.toList.drop (k + 4) := by
    have := congrArg (List.drop 4) hd
    rw [List.drop_drop] at this
    simpa using this.symm
  rw [h2]
  simp

theorem run_next4 {l rest : List UInt8} {k came n : Nat} {record : List UInt8} {recs : List (List UInt8)} {a b c d : UInt8} {q : Ms × List (List UInt8)} (h : Ms.new.run (l.take k) = (mid record came, recs)) (hd : l.drop k = a :: b :: c :: d :: rest) (hq : (mid record came).run (a :: b :: c :: d :: rest.take n) = q) (hx : (rest.take n).length = n) : Ms.new.run (l.take (k + 4 + n)) = (q.1, recs ++ q.2) := by
  have e : l.take (k + 4 + n) = l.take k ++ (a :: b :: c :: d :: rest.take n) := by
    rw [show k + 4 + n = k + (4 + n) by omega, List.take_add, hd, show 4 + n = n + 4 by omega]
    rfl
  rw [e, Ms.run_append, h, hq]

theorem count_le (l : List UInt8) (h : l.length ≤ 1000000) : (Ms.new.run l).2.length + 1 ≤ 1000000000000 := by
  have := Ms.run_count .new l
  omega

theorem lit_txt (w : World) (X : ByteArray) (Y : List UInt8) (h : X = ⟨Y.toArray⟩) : Strs (w.alloc (.cells #[.string X] 9)) (.slice (some ⟨w.heap.size, 0, none⟩) 1 1) [Y] := by
  refine .inr (.inl ⟨w.heap.size, 0, 1, rfl, Nat.le_refl _, by unfold maxLen; omega, fun i hi => ?_⟩)
  obtain rfl : i = 0 := by simpa using hi
  rw [h]
  exact (Blk.made w _ _).cell (i := 0) rfl

/-- The answer, put together. -/
theorem told_of {s : ByteArray} {w w' : World} {recs : List (List UInt8)} {ao : Option Addr} {ko : Nat} {whole : Int} {q : Ms × List (List UInt8)} {sh : Bool} (ht : Texts w' w.heap.size (.slice ao recs.length ko) recs) (hg : w.grownBy w' none) (hr : Ms.new.run s.data.toList = (q.1, recs ++ q.2)) (hq2 : q.2 = []) (hsh : q.1.shut = sh)
    (hq : q.1.shut = false → whole = (s.data.toList.length : Int) - q.1.came) (h0 : 0 ≤ whole) (h1 : whole ≤ s.data.toList.length) :
    ToldR w s.data.toList (.returned (.tuple #[.slice ao recs.length ko, .int .i64 whole, .bool sh])) w' := by
  unfold ToldR
  rw [hr, hq2, List.append_nil]
  exact ⟨ao, ko, whole, by rw [hsh], ht, hg, hq, h0, h1⟩

set_option maxRecDepth 100000 in
set_option maxHeartbeats 1600000 in
theorem told_any (s : ByteArray) (w : World) (hs : s.size ≤ 1000000) : Calls Try.prog 23 #[.string s] w (ToldR w s.data.toList) := by
  have hs' : (s.size : Int) ≤ 1000000 := by omega
  go_enter Try.func23, Try.ntmps23
  go_wp2_with fail
  go_loopw [5, 6, 7, 8] (fun out at_ whole rec w' => ∃ (k wh : Nat) (record : List UInt8), at_ = .int .i64 k ∧ whole = .int .i64 wh ∧ wh ≤ k ∧ k ≤ s.size ∧ rec = txt record ∧ record.length ≤ 4096 ∧
      Ms.new.run (s.data.toList.take k) = (mid record (k - wh), (Ms.new.run (s.data.toList.take k)).2) ∧ Texts w' w.heap.size out (Ms.new.run (s.data.toList.take k)).2 ∧ w.grownBy w' none) (fun _ at_ _ _ _ => s.size - (intOf at_).toNat)
  case atStart => exact ⟨0, 0, [], rfl, rfl, Nat.le_refl _, Nat.zero_le _, rfl, by simp, rfl, Texts.nil _ _, World.grownBy.refl _ _⟩
  case round =>
    obtain ⟨k, wh, record, rfl, rfl, hwk, hks, rfl, hrl, hrun, htx, hgr⟩ := hrel
    obtain ⟨ao, ko, rfl⟩ := htx.form
    have hk1 : (k : Int) ≤ s.size := by omega
    have hrl' : (record.length : Int) ≤ 4096 := by omega
    have HR := Lib.hid hrun; have HT := Lib.hid htx; have HG := Lib.hid hgr
    clear hrun htx hgr
    simp only [txt]
    by_cases h4 : k + 4 ≤ s.size
    · have h4' : (k : Int) + 4 ≤ s.size := by omega
      have hlen : s.data.toList.length = s.size := by simp
      obtain ⟨a, b, c, d, rest, hdr⟩ : ∃ a b c d rest, s.data.toList.drop k = a :: b :: c :: d :: rest := drop_four _ _ (by omega)
      have hidx : ∀ j, j < 4 → s.data.toList[k + j]? = [a, b, c, d][j]? := fun j hj => by
        have := congrArg (·[j]?) hdr
        simp only [List.getElem?_drop] at this
        rw [this]
        match j, hj with
        | 0, _ => rfl
        | 1, _ => rfl
        | 2, _ => rfl
        | 3, _ => rfl
      have HDR := Lib.hid hdr; have HIX := Lib.hid hidx
      clear hdr hidx hlen
      go_wp2_with fail
      obtain ⟨w0, rfl⟩ : ∃ wo : World, wo = wr := ⟨_, rfl⟩
      go_loop [9, 10] (fun nv iv => ∃ j : Nat, j ≤ 4 ∧ iv = .int .i64 j ∧ nv = .int .i64 (acc4 a b c d j)) (fun _ iv => 4 - (intOf iv).toNat)
      case atStart => exact ⟨0, Nat.zero_le _, rfl, rfl⟩
      case round =>
        obtain ⟨j, hj, rfl, rfl⟩ := hrel
        by_cases hj4 : j < 4
        · have hj4' : (j : Int) < 4 := by omega
          go_wp2_with fail
          go_round
          case rel =>
            refine ⟨j + 1, by omega, by go_num, ?_⟩
            rw [acc_next a b c d j hj4 s[k + j] (by
              rw [← HIX.out j hj4]
              have : k + j < s.data.toList.length := by simp; omega
              rw [List.getElem?_eq_getElem this]
              simp
              rfl)]
          case measure => simp [intOf]; omega
        · obtain rfl : j = 4 := by omega
          have hNl := headN_lt a b c d
          rw [acc4_end]
          have HIXX := HIX; clear HIX
          generalize hN : headN [a, b, c, d] = N at *
          have hNl' : (N : Int) < 4294967296 := by omega
          have HN := Lib.hid hN; clear hN
          have hN0 : (0 : Int) ≤ N := by omega
          obtain ⟨M, hM⟩ : ∃ M : Int, M = (N : Int) := ⟨_, rfl⟩
          rw [← hM] at hNl' hN0 ⊢
          clear hNl
          by_cases hla : 2147483648 ≤ N
          · have hla' : (2147483648 : Int) ≤ M := by omega
            have HLA := Lib.hid hla; clear hla
            have hm : ((N % 2147483648 : Nat) : Int) = (M - 2147483648) := by omega
            by_cases hbig : 4096 - record.length < N % 2147483648
            · have hbig' : (4096 : Int) < (record.length : Int) + (M - 2147483648) := by omega
              have HM := Lib.hid hm; have HBG := Lib.hid hbig; have HMM := Lib.hid hM; clear hm hbig hM
              go_wp2_with fail
              refine bodyPost_ret (v := .tuple #[.slice ao (Ms.new.run (s.data.toList.take k)).2.length ko, .int .i64 wh, .bool true]) (by simp [results, Try.results23, go_sem]) rfl ?_
              exact told_of HT.out HG.out (run_full HR.out HDR.out (mid_shut record (k - wh) a b c d rest (by rw [HN.out]; exact HBG.out))) rfl rfl (fun h => by cases h) (by omega) (by simp; omega)
            · have hbig' : (record.length : Int) + (M - 2147483648) ≤ 4096 := by omega
              have hrest : rest.length + 4 + k = s.size := rest_len HDR.out hks
              by_cases hsh : rest.length < N % 2147483648
              · have hsh' : (s.size : Int) < (k : Int) + 4 + (M - 2147483648) := by omega
                obtain ⟨p1, p2, p3⟩ := mid_part record rest (k - wh) a b c d (by rw [HN.out]; omega) (by rw [HN.out]; exact hsh)
                have hf := run_full HR.out HDR.out rfl
                have HF := Lib.hid (told_of HT.out HG.out hf p3 p1 (fun _ => by rw [p2]; simp; omega) (show (0 : Int) ≤ wh by omega) (by simp; omega))
                clear p1 p2 p3 hf hm hbig hsh hrest hM
                go_wp2_with fail
                refine bodyPost_ret (v := .tuple #[.slice ao (Ms.new.run (s.data.toList.take k)).2.length ko, .int .i64 wh, .bool false]) (by simp [results, Try.results23, go_sem]) rfl ?_
                exact HF.out
              · have hsh' : (k : Int) + 4 + (M - 2147483648) ≤ s.size := by omega
                have hX : (⟨record.toArray⟩ : ByteArray) ++ s.extract (k + 4) ((k : Int) + 4 + (M - 2147483648)).toNat = ⟨(record ++ rest.take (N % 2147483648)).toArray⟩ := ext_mid HDR.out (by omega)
                have hxl : (rest.take (N % 2147483648)).length = N % 2147483648 := by rw [List.length_take]; omega
                have hwh := mid_whole record (rest.take (N % 2147483648)) (k - wh) a b c d (by rw [HN.out]; omega) (by rw [HN.out]; exact hxl)
                have hnx := run_next4 HR.out HDR.out hwh hxl
                rw [HN.out] at hnx
                have hk2 : k + 4 + N % 2147483648 ≤ s.size := by omega
                have hkE : (k : Int) + 4 + (M - 2147483648) = ((k + 4 + N % 2147483648 : Nat) : Int) := by omega
                have hcount := count_le (s.data.toList.take k) (by simp; omega : (s.data.toList.take k).length ≤ 1000000)
                have HX := Lib.hid hX; have HNX := Lib.hid hnx; have HK2 := Lib.hid hk2; have HKE := Lib.hid hkE; have HCT := Lib.hid hcount; have HXL := Lib.hid hxl
                have HM := Lib.hid hm; have HBG := Lib.hid hbig; have HRS := Lib.hid hrest; have HSH := Lib.hid hsh; have HMM := Lib.hid hM
                clear hm hbig hrest hsh hM hX hxl hwh hnx hk2 hkE hcount
                go_wp2_with (at_builtin; refine wpList_append_txt rfl _ _ rfl w.heap.size _ _ _ [record ++ rest.take (N % 2147483648)] rfl rfl (HT.out.new (World.grownBy_alloc _ _ _)) (lit_txt _ _ _ HX.out) HCT.out (by have := HG.out.size; simp; omega) ?_; rintro v7 w7 hap; obtain ⟨a7, k7, rfl⟩ := hap.1.form; have D3 := Lib.hid hap.1; have D4 := Lib.hid (grown_own (World.grownBy.trans HG.out (World.grownBy_alloc _ _ _)) hap.2.1 (fun m hm => (HT.out.lt m hm).1)); clear hap)
                go_roundw
                case rel =>
                  refine ⟨k + 4 + N % 2147483648, k + 4 + N % 2147483648, [], by rw [HKE.out], by rw [HKE.out], Nat.le_refl _, HK2.out, rfl, by simp, ?_, ?_, D4.out⟩
                  · rw [HNX.out, if_pos HLA.out]
                    simp [mid, Ms.new]
                  · have h := D3.out
                    rw [HNX.out, if_pos HLA.out]
                    rw [List.length_append] at h
                    exact h
                case measure => have := HKE.out; simp [intOf]; omega
          · have hla' : M < 2147483648 := by omega
            have HLA := Lib.hid hla; clear hla
            have hm : ((N % 2147483648 : Nat) : Int) = M := by omega
            by_cases hbig : 4096 - record.length < N % 2147483648
            · have hbig' : (4096 : Int) < (record.length : Int) + M := by omega
              have HM := Lib.hid hm; have HBG := Lib.hid hbig; have HMM := Lib.hid hM; clear hm hbig hM
              go_wp2_with fail
              refine bodyPost_ret (v := .tuple #[.slice ao (Ms.new.run (s.data.toList.take k)).2.length ko, .int .i64 wh, .bool true]) (by simp [results, Try.results23, go_sem]) rfl ?_
              exact told_of HT.out HG.out (run_full HR.out HDR.out (mid_shut record (k - wh) a b c d rest (by rw [HN.out]; exact HBG.out))) rfl rfl (fun h => by cases h) (by omega) (by simp; omega)
            · have hbig' : (record.length : Int) + M ≤ 4096 := by omega
              have hrest : rest.length + 4 + k = s.size := rest_len HDR.out hks
              by_cases hsh : rest.length < N % 2147483648
              · have hsh' : (s.size : Int) < (k : Int) + 4 + M := by omega
                obtain ⟨p1, p2, p3⟩ := mid_part record rest (k - wh) a b c d (by rw [HN.out]; omega) (by rw [HN.out]; exact hsh)
                have hf := run_full HR.out HDR.out rfl
                have HF := Lib.hid (told_of HT.out HG.out hf p3 p1 (fun _ => by rw [p2]; simp; omega) (show (0 : Int) ≤ wh by omega) (by simp; omega))
                clear p1 p2 p3 hf hm hbig hsh hrest hM
                go_wp2_with fail
                refine bodyPost_ret (v := .tuple #[.slice ao (Ms.new.run (s.data.toList.take k)).2.length ko, .int .i64 wh, .bool false]) (by simp [results, Try.results23, go_sem]) rfl ?_
                exact HF.out
              · have hsh' : (k : Int) + 4 + M ≤ s.size := by omega
                have hX : (⟨record.toArray⟩ : ByteArray) ++ s.extract (k + 4) ((k : Int) + 4 + M).toNat = ⟨(record ++ rest.take (N % 2147483648)).toArray⟩ := ext_mid HDR.out (by omega)
                have hxl : (rest.take (N % 2147483648)).length = N % 2147483648 := by rw [List.length_take]; omega
                have hwh := mid_whole record (rest.take (N % 2147483648)) (k - wh) a b c d (by rw [HN.out]; omega) (by rw [HN.out]; exact hxl)
                have hnx := run_next4 HR.out HDR.out hwh hxl
                rw [HN.out] at hnx
                have hk2 : k + 4 + N % 2147483648 ≤ s.size := by omega
                have hkE : (k : Int) + 4 + M = ((k + 4 + N % 2147483648 : Nat) : Int) := by omega
                have hcount := count_le (s.data.toList.take k) (by simp; omega : (s.data.toList.take k).length ≤ 1000000)
                have HX := Lib.hid hX; have HNX := Lib.hid hnx; have HK2 := Lib.hid hk2; have HKE := Lib.hid hkE; have HCT := Lib.hid hcount; have HXL := Lib.hid hxl
                have HM := Lib.hid hm; have HBG := Lib.hid hbig; have HRS := Lib.hid hrest; have HSH := Lib.hid hsh; have HMM := Lib.hid hM
                clear hm hbig hrest hsh hM hX hxl hwh hnx hk2 hkE hcount
                go_wp2_with fail
                go_roundw
                case rel =>
                  have hn2 : ¬ 2147483648 ≤ N := HLA.out
                  have hbl : (record ++ rest.take (N % 2147483648)).length ≤ 4096 := by rw [List.length_append, HXL.out]; have := HBG.out; omega
                  refine ⟨k + 4 + N % 2147483648, wh, record ++ rest.take (N % 2147483648), by rw [HKE.out], rfl, by omega, HK2.out, by rw [HX.out], hbl, ?_, ?_, HG.out⟩
                  · rw [HNX.out, if_neg hn2]
                    dsimp only
                    rw [HXL.out, List.append_nil]
                    congr 2
                    omega
                  · rw [HNX.out, if_neg hn2]
                    dsimp only
                    rw [List.append_nil]
                    exact HT.out
                case measure => have := HKE.out; simp [intOf]; omega
    · have h4' : (s.size : Int) < (k : Int) + 4 := by omega
      have hxl : (s.data.toList.drop k).length = s.size - k := by simp
      have hr := mid_short record (s.data.toList.drop k) (k - wh) (by omega)
      have hrun : Ms.new.run s.data.toList = (((mid record (k - wh)).run (s.data.toList.drop k)).1, (Ms.new.run (s.data.toList.take k)).2 ++ ((mid record (k - wh)).run (s.data.toList.drop k)).2) := by
        conv => lhs; rw [← List.take_append_drop k s.data.toList]
        rw [Ms.run_append, HR.out]
      have HF := Lib.hid (told_of HT.out HG.out hrun (by rw [hr]) (by rw [hr] : _ = false) (fun _ => by rw [hr]; dsimp only; rw [hxl]; simp; omega) (show (0 : Int) ≤ wh by omega) (by simp; omega))
      clear hxl hr hrun
      go_wp2_with fail
      refine bodyPost_ret (v := .tuple #[.slice ao (Ms.new.run (s.data.toList.take k)).2.length ko, .int .i64 wh, .bool false]) (by simp [results, Try.results23, go_sem]) rfl ?_
      exact HF.out
end Go.Proofs.Ytahmpgaohjopeaa
