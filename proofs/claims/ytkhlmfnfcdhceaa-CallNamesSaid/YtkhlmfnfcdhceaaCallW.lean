/- call.Write and call.Tell. -/
import Derived.Test.YtkhlmfnfcdhceaaCallB
namespace Go.Proofs.Ytkhlmfnfcdhceaa
open Go.RowKit

def txt (b : List UInt8) : Value := .string ⟨b.toArray⟩
/-- A head, and an answer, as values. -/
def hdV (h : Hd) : Value := .agg #[.int .i64 h.c, .int .i64 h.x, .int .i64 h.p, txt h.b]
def anV (a : An) : Value := .agg #[.int .i64 a.x, .int .i64 a.e, txt a.b]

/-- A text and an error, told. -/
def TE (w : World) (p : List UInt8 × Int) (e : Ending) (w' : World) : Prop := e = .returned (.tuple #[txt p.1, .int .i64 p.2]) ∧ w.grownBy w' none

theorem nums_at {w : World} {k : Nat} (ws : List Nat) {xs : Array Value} {t : TypeId} (hk : k = w.heap.size) (e : xs = (ws.map fun (n : Nat) => Value.int .i64 (n : Int)).toArray) (h : ∀ n ∈ ws, n < 4294967296) : Nums (w.alloc (.cells xs t)) k ws := by
  subst hk e
  intro i hi
  exact ⟨(Blk.made w t _).cell (by simp [List.getElem?_eq_getElem hi]), h _ (List.getElem_mem hi)⟩

theorem pad_whole {n : Nat} (h : n % 4 = 0) : pad n = 0 := by unfold pad; omega
theorem fixedB_whole {b : List UInt8} (h : b.length % 4 = 0) : fixedB b = b := by unfold fixedB; rw [pad_whole h]; simp

theorem hdB_cat (x c p : Nat) (b : List UInt8) (h : b.length % 4 = 0) : cat [x, 0, 284, 3, c, p] ++ fixedB b = hdB ⟨c, x, p, b⟩ := by
  rw [fixedB_whole h]
  rfl
theorem anB_cat (x e : Nat) (b : List UInt8) (h : b.length % 4 = 0) : cat [x, 1, e] ++ fixedB b = anB ⟨x, e, b⟩ := by
  rw [fixedB_whole h]
  rfl

set_option maxHeartbeats 1000000 in
theorem write_bad (c x p : Int) (b : List UInt8) (w : World) (hx : isI x) (hp : isI p) (hb : b.length ≤ maxLen) (h : ¬ ((1 ≤ c ∧ c ≤ 16) ∧ isW x ∧ isW p ∧ b.length % 4 = 0)) :
    Calls Try.prog 11 #[hdV ⟨c, x, p, b⟩] w (TE w ([], 1)) := by
  have HC := Lib.hid (fun w => client_any c w)
  have HX := Lib.hid (fun w => cword_any x w hx)
  have HP := Lib.hid (fun w => cword_any p w hp)
  have HB := Lib.hid (fun w => whole_any ⟨b.toArray⟩ w hb)
  have hz : (⟨b.toArray⟩ : ByteArray).size = b.length := rfl
  rw [hz] at HB
  have key : decide (1 ≤ c ∧ c ≤ 16) = false ∨ decide (1 ≤ c ∧ c ≤ 16) = true ∧ decide (isW x) = false ∨ decide (1 ≤ c ∧ c ≤ 16) = true ∧ decide (isW x) = true ∧ decide (isW p) = false ∨
      decide (1 ≤ c ∧ c ≤ 16) = true ∧ decide (isW x) = true ∧ decide (isW p) = true ∧ decide (b.length % 4 = 0) = false := by
    by_cases h1 : 1 ≤ c ∧ c ≤ 16 <;> by_cases h2 : isW x <;> by_cases h3 : isW p <;> by_cases h4 : b.length % 4 = 0 <;> simp [h1, h2, h3, h4] at h ⊢
  generalize decide (1 ≤ c ∧ c ≤ 16) = b1 at *
  generalize decide (isW x) = b2 at *
  generalize decide (isW p) = b3 at *
  generalize decide (b.length % 4 = 0) = b4 at *
  clear h hx hp hb hz
  unfold hdV txt
  rcases key with rfl | ⟨rfl, rfl⟩ | ⟨rfl, rfl, rfl⟩ | ⟨rfl, rfl, rfl, rfl⟩
  all_goals
    go_enter Try.func11, Try.ntmps11
    go_wp2_with (first
      | (go_at_call 20; refine (HC.out _).mono ?_; rintro e w' ⟨rfl, rfl⟩)
      | (go_at_call 21; refine (HX.out _).mono ?_; rintro e w' ⟨rfl, rfl⟩)
      | (go_at_call 21; refine (HP.out _).mono ?_; rintro e w' ⟨rfl, rfl⟩)
      | (go_at_call 22; refine (HB.out _).mono ?_; rintro e w' ⟨rfl, rfl⟩))
    go_ret2
    exact ⟨rfl, World.grownBy_alloc _ _ _⟩

set_option maxHeartbeats 1000000 in
theorem write_far (c x p : Int) (b : List UInt8) (w : World) (hc : 1 ≤ c ∧ c ≤ 16) (hx : isW x) (hp : isW p) (h4 : b.length % 4 = 0) (hb : b.length ≤ maxLen) (h : 4072 < b.length) :
    Calls Try.prog 11 #[hdV ⟨c, x, p, b⟩] w (TE w ([], 40)) := by
  have HC := Lib.hid (fun w => client_any c w)
  have HX := Lib.hid (fun w => cword_any x w (by unfold isW at hx; unfold isI; omega))
  have HP := Lib.hid (fun w => cword_any p w (by unfold isW at hp; unfold isI; omega))
  have HB := Lib.hid (fun w => whole_any ⟨b.toArray⟩ w hb)
  have hz : (⟨b.toArray⟩ : ByteArray).size = b.length := rfl
  rw [hz, decide_eq_true h4] at HB
  rw [decide_eq_true hc] at HC
  rw [decide_eq_true hx] at HX
  rw [decide_eq_true hp] at HP
  have hl : (4072 : Int) < b.length := by omega
  have hl2 : (b.length : Int) ≤ 9223372036854775807 := by unfold maxLen at hb; omega
  clear h hx hp hb hz h4 hc
  unfold hdV txt
  go_enter Try.func11, Try.ntmps11
  go_wp2_with (first
      | (go_at_call 20; refine (HC.out _).mono ?_; rintro e w' ⟨rfl, rfl⟩)
      | (go_at_call 21; refine (HX.out _).mono ?_; rintro e w' ⟨rfl, rfl⟩)
      | (go_at_call 21; refine (HP.out _).mono ?_; rintro e w' ⟨rfl, rfl⟩)
      | (go_at_call 22; refine (HB.out _).mono ?_; rintro e w' ⟨rfl, rfl⟩))
  go_ret2
  exact ⟨rfl, World.grownBy_alloc _ _ _⟩

set_option maxHeartbeats 1000000 in
theorem write_ok (c x p : Nat) (b : List UInt8) (w : World) (hc : 1 ≤ c ∧ c ≤ 16) (hx : x < 4294967296) (hp : p < 4294967296) (h4 : b.length % 4 = 0) (h : b.length ≤ 4072) :
    Calls Try.prog 11 #[hdV ⟨c, x, p, b⟩] w (TE w (hdB ⟨c, x, p, b⟩, 0)) := by
  have HC := Lib.hid (fun w => client_any c w)
  have HX := Lib.hid (fun w => cword_any x w (by unfold isI; omega))
  have HP := Lib.hid (fun w => cword_any p w (by unfold isI; omega))
  have HB := Lib.hid (fun w => whole_any ⟨b.toArray⟩ w (by show b.length ≤ maxLen; unfold maxLen; omega))
  have hz : (⟨b.toArray⟩ : ByteArray).size = b.length := rfl
  rw [hz, decide_eq_true h4] at HB
  rw [decide_eq_true (by omega)] at HC
  rw [decide_eq_true (by unfold isW; omega)] at HX
  rw [decide_eq_true (by unfold isW; omega)] at HP
  have HE := Lib.hid (hdB_cat x c p b h4)
  have HW := Lib.hid (show ∀ n ∈ [x, 0, 284, 3, c, p], n < 4294967296 by intro n hn; simp at hn; omega)
  have HL := Lib.hid h
  have hl : (b.length : Int) ≤ 4072 := by omega
  clear h hx hp hz h4 hc
  unfold hdV txt
  go_enter Try.func11, Try.ntmps11
  go_wp2_with (first
      | (go_at_call 20; refine (HC.out _).mono ?_; rintro e w' ⟨rfl, rfl⟩)
      | (go_at_call 21; refine (HX.out _).mono ?_; rintro e w' ⟨rfl, rfl⟩)
      | (go_at_call 21; refine (HP.out _).mono ?_; rintro e w' ⟨rfl, rfl⟩)
      | (go_at_call 22; refine (HB.out _).mono ?_; rintro e w' ⟨rfl, rfl⟩))
  refine (put_any ⟨b.toArray⟩ _ _ [x, 0, 284, 3, c, p] _ (by show b.length ≤ _; have := HL.out; omega) (by simp) (nums_at _ (by simp) rfl HW.out)).mono ?_
  rintro e w2 ⟨rfl, h2⟩
  have H2 := Lib.hid h2
  clear h2
  go_wp2_with fail
  go_ret2
  refine ⟨?_, World.grownBy.trans (World.grownBy.trans (World.grownBy_alloc _ _ _) (World.grownBy_alloc _ _ _)) H2.out⟩
  rw [← HE.out]
  rfl

theorem Write_any (h : Hd) (w : World) (hx : isI h.x) (hp : isI h.p) (hb : h.b.length ≤ maxLen) : Calls Try.prog 11 #[hdV h] w (TE w (cWrite h)) := by
  obtain ⟨c, x, p, b⟩ := h
  by_cases h1 : (1 ≤ c ∧ c ≤ 16) ∧ isW x ∧ isW p ∧ b.length % 4 = 0
  · obtain ⟨h1, h2, h3, h4⟩ := h1
    by_cases h5 : b.length ≤ 4072
    · rw [cWrite_of (h := ⟨c, x, p, b⟩) h1 h2 h3 h4 h5]
      obtain ⟨c, rfl⟩ := Int.eq_ofNat_of_zero_le (show 0 ≤ c by omega)
      obtain ⟨x, rfl⟩ := Int.eq_ofNat_of_zero_le h2.1
      obtain ⟨p, rfl⟩ := Int.eq_ofNat_of_zero_le h3.1
      unfold isW at h2 h3
      exact write_ok c x p b w (by omega) (by omega) (by omega) h4 h5
    · have e : cWrite ⟨c, x, p, b⟩ = ([], 40) := by
        unfold cWrite
        rw [if_neg (by rintro (q | q | q | q | q) <;> first | (exact q h2) | (exact q h3) | (exact q h4) | (dsimp at q; omega)), if_pos (by show 4072 < b.length; omega)]
      rw [e]
      exact write_far c x p b w h1 h2 h3 h4 hb (by omega)
  · have e : cWrite ⟨c, x, p, b⟩ = ([], 1) := by
      unfold cWrite
      rw [if_pos]
      dsimp only
      by_cases q1 : 1 ≤ c ∧ c ≤ 16
      · by_cases q2 : isW x
        · by_cases q3 : isW p
          · exact .inr (.inr (.inr (.inr fun q => h1 ⟨q1, q2, q3, q⟩)))
          · exact .inr (.inr (.inr (.inl q3)))
        · exact .inr (.inr (.inl q2))
      · omega
    rw [e]
    exact write_bad c x p b w hx hp hb h1

end Go.Proofs.Ytkhlmfnfcdhceaa
