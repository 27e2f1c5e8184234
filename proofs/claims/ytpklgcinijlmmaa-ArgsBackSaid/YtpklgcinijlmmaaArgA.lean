/- Arguments as words: which fields a procedure asks for, and tells; the document's small functions. -/
import Derived.Test.YtpklgcinijlmmaaHanD
import Derived.LoopTactic
namespace Go.Proofs.Ytpklgcinijlmmaa
open Go.RowKit

/-- The letters of the fields. -/
def asks : Nat → List UInt8
  | 0 => []
  | 1 => [72]
  | 2 => [72, 109, 115, 103]
  | 3 => [72, 110]
  | 4 => [72]
  | 5 => [72, 97, 78]
  | 6 => [72, 97, 83, 116]
  | 7 => [72, 110, 109, 103]
  | 8 => [72, 110, 109]
  | 9 => [72, 110, 116]
  | 10 => [72, 110]
  | 11 => [72, 110]
  | 12 => [72, 110, 84, 111]
  | 13 => [72, 84, 110]
  | 14 => [72, 97, 78, 118]
  | 15 => [72]
  | 16 => [72]
  | 17 => [72, 110]
  | 18 => [72, 110]
  | _ => []
def tells : Nat → List UInt8
  | 0 => []
  | 1 => [65]
  | 2 => [65]
  | 3 => [72, 65]
  | 4 => [116]
  | 5 => [116, 101, 65]
  | 6 => [78, 118, 65]
  | 7 => [72, 65]
  | 8 => [72, 65]
  | 9 => [72, 65]
  | 10 => []
  | 11 => []
  | 12 => []
  | 13 => [65]
  | 14 => [69, 101, 118]
  | 15 => [78, 102, 117]
  | 16 => [118]
  | 17 => [72]
  | 18 => []
  | _ => []

/-- Arguments. -/
structure PA where
  h : Hn
  t : Hn
  n : List UInt8
  o : List UInt8
  x : List UInt8
  a : Int
  c : Int
  m : Int
  s : Int
  b : Int
  g : Int
  v : Int
deriving DecidableEq

def noPA : PA := ⟨noHn, noHn, [], [], [], 0, 0, 0, 0, 0, 0, 0⟩
def paC (p : PA) : Array Value := #[.int .i64 p.h.s, .int .i64 p.h.i, .int .i64 p.h.g, .int .i64 p.t.s, .int .i64 p.t.i, .int .i64 p.t.g, txt p.n, txt p.o, txt p.x, .int .i64 p.a, .int .i64 p.c, .int .i64 p.m, .int .i64 p.s, .int .i64 p.b, .int .i64 p.g, .int .u64 p.v]
def paV (p : PA) : Value := .agg (paC p)

/-- The number of a letter. -/
def aNum (p : PA) (c : UInt8) : Int := if c = 97 then p.a else if c = 78 then p.c else if c = 109 then p.m else if c = 115 then p.s else if c = 83 then p.b else p.g

/-- Does a call change something? -/
def pChanges (k : Int) (p : PA) : Bool := if k = 6 then p.b != 0 else (k == 2 || (decide (7 ≤ k) && decide (k ≤ 13)) || k == 17 || k == 18)

theorem idx_str (l : List UInt8) (k : Nat) (h : k < l.length) (w : World) : (Instr.index 9 (.string ⟨l.toArray⟩) (.int .i64 (k : Int))).run Try.prog w = .ok (.int .u8 (l[k].toNat : Int)) w := by
  rw [run_index_string (h := und9), dif_pos ⟨by omega, by show (k : Int) < (l.length : Nat); omega⟩]
  rfl

set_option maxRecDepth 10000 in
set_option maxHeartbeats 1000000 in
theorem has_any (l : List UInt8) (hl : l.length ≤ 100) (c : UInt8) (w : World) : Calls Try.prog 89 #[.string ⟨l.toArray⟩, .int .u8 (c.toNat : Int)] w (Says w (.bool (decide (c ∈ l)))) := by
  have hl2 : (l.length : Int) ≤ 100 := by omega
  obtain ⟨B, hB⟩ : ∃ B, decide (c ∈ l) = B := ⟨_, rfl⟩
  rw [hB]
  have HB := Lib.hid hB
  clear hl hB
  go_enter Try.func89, Try.ntmps89
  go_wp2_with fail
  go_loop [5] (fun i => ∃ k : Nat, k ≤ l.length ∧ i = .int .i64 k ∧ ∀ j (h : j < l.length), j < k → l[j] ≠ c) (fun i => l.length - (intOf i).toNat)
  case atStart => exact ⟨0, Nat.zero_le _, rfl, fun j _ h => absurd h (by omega)⟩
  case round =>
    obtain ⟨k, hk, rfl, hall⟩ := hrel
    by_cases hkl : k < l.length
    · have hkl2 : (k : Int) < l.length := by omega
      have hix := fun w => idx_str l k hkl w
      by_cases he : l[k] = c
      · have hc : c ∈ l := he ▸ List.getElem_mem hkl
        have HC : Hid (true = B) := Lib.hid (by rw [← HB.out, decide_eq_true hc])
        rw [he] at hix
        clear hall hc he
        go_wp2_with fail
        go_ret
        exact ⟨retB HC.out, rfl⟩
      · have hne : ¬ ((l[k].toNat : Int) = (c.toNat : Int)) := fun h => he (UInt8.toNat_inj.1 (by omega))
        have HALL := Lib.hid hall
        generalize l[k].toNat = y at *
        clear hall
        go_wp2_with fail
        go_round
        case rel => exact ⟨k + 1, by omega, by go_num, fun j hj hjk => by
          by_cases h : j = k
          · subst h; exact he
          · exact HALL.out j hj (by omega)⟩
        case measure => simp [intOf]; omega
    · obtain rfl : k = l.length := by omega
      have hc : ¬ c ∈ l := fun h => by
        obtain ⟨j, hj, e⟩ := List.getElem_of_mem h
        exact hall j hj hj e
      have HC : Hid (false = B) := Lib.hid (by rw [← HB.out, decide_eq_false hc])
      clear hall hc hkl
      go_wp2_with fail
      go_ret
      exact ⟨retB HC.out, rfl⟩

set_option maxRecDepth 20000 in
set_option maxHeartbeats 2000000 in
theorem asks_any (k : Nat) (hk : k < 19) (w : World) : Calls Try.prog 44 #[.int .i64 (k : Int)] w (TX w (asks k)) := by
  have hx : (#[.string ⟨#[]⟩, .string ⟨#[72]⟩, .string ⟨#[72, 109, 115, 103]⟩, .string ⟨#[72, 110]⟩, .string ⟨#[72]⟩, .string ⟨#[72, 97, 78]⟩, .string ⟨#[72, 97, 83, 116]⟩, .string ⟨#[72, 110, 109, 103]⟩, .string ⟨#[72, 110, 109]⟩, .string ⟨#[72, 110, 116]⟩, .string ⟨#[72, 110]⟩, .string ⟨#[72, 110]⟩, .string ⟨#[72, 110, 84, 111]⟩, .string ⟨#[72, 84, 110]⟩, .string ⟨#[72, 97, 78, 118]⟩, .string ⟨#[72]⟩, .string ⟨#[72]⟩, .string ⟨#[72, 110]⟩, .string ⟨#[72, 110]⟩] : Array Value)[k]? = some (.string ⟨(asks k).toArray⟩) := by
    rcases (show k = 0 ∨ k = 1 ∨ k = 2 ∨ k = 3 ∨ k = 4 ∨ k = 5 ∨ k = 6 ∨ k = 7 ∨ k = 8 ∨ k = 9 ∨ k = 10 ∨ k = 11 ∨ k = 12 ∨ k = 13 ∨ k = 14 ∨ k = 15 ∨ k = 16 ∨ k = 17 ∨ k = 18 by omega) with rfl | rfl | rfl | rfl | rfl | rfl | rfl | rfl | rfl | rfl | rfl | rfl | rfl | rfl | rfl | rfl | rfl | rfl | rfl <;> rfl
  have hc := (Blk.made w 9 #[.string ⟨#[]⟩, .string ⟨#[72]⟩, .string ⟨#[72, 109, 115, 103]⟩, .string ⟨#[72, 110]⟩, .string ⟨#[72]⟩, .string ⟨#[72, 97, 78]⟩, .string ⟨#[72, 97, 83, 116]⟩, .string ⟨#[72, 110, 109, 103]⟩, .string ⟨#[72, 110, 109]⟩, .string ⟨#[72, 110, 116]⟩, .string ⟨#[72, 110]⟩, .string ⟨#[72, 110]⟩, .string ⟨#[72, 110, 84, 111]⟩, .string ⟨#[72, 84, 110]⟩, .string ⟨#[72, 97, 78, 118]⟩, .string ⟨#[72]⟩, .string ⟨#[72]⟩, .string ⟨#[72, 110]⟩, .string ⟨#[72, 110]⟩]).cell hx
  have h19 : (k : Int) ≤ 18 := by omega
  unfold TX
  generalize (asks k).toArray = T at *
  clear hk
  go_enter Try.func44, Try.ntmps44
  go_wp2_with fail
  go_ret
  exact ⟨rfl, World.grownBy_alloc _ _ _⟩

set_option maxRecDepth 20000 in
set_option maxHeartbeats 2000000 in
theorem tells_any (k : Nat) (hk : k < 19) (w : World) : Calls Try.prog 58 #[.int .i64 (k : Int)] w (TX w (tells k)) := by
  have hx : (#[.string ⟨#[]⟩, .string ⟨#[65]⟩, .string ⟨#[65]⟩, .string ⟨#[72, 65]⟩, .string ⟨#[116]⟩, .string ⟨#[116, 101, 65]⟩, .string ⟨#[78, 118, 65]⟩, .string ⟨#[72, 65]⟩, .string ⟨#[72, 65]⟩, .string ⟨#[72, 65]⟩, .string ⟨#[]⟩, .string ⟨#[]⟩, .string ⟨#[]⟩, .string ⟨#[65]⟩, .string ⟨#[69, 101, 118]⟩, .string ⟨#[78, 102, 117]⟩, .string ⟨#[118]⟩, .string ⟨#[72]⟩, .string ⟨#[]⟩] : Array Value)[k]? = some (.string ⟨(tells k).toArray⟩) := by
    rcases (show k = 0 ∨ k = 1 ∨ k = 2 ∨ k = 3 ∨ k = 4 ∨ k = 5 ∨ k = 6 ∨ k = 7 ∨ k = 8 ∨ k = 9 ∨ k = 10 ∨ k = 11 ∨ k = 12 ∨ k = 13 ∨ k = 14 ∨ k = 15 ∨ k = 16 ∨ k = 17 ∨ k = 18 by omega) with rfl | rfl | rfl | rfl | rfl | rfl | rfl | rfl | rfl | rfl | rfl | rfl | rfl | rfl | rfl | rfl | rfl | rfl | rfl <;> rfl
  have hc := (Blk.made w 9 #[.string ⟨#[]⟩, .string ⟨#[65]⟩, .string ⟨#[65]⟩, .string ⟨#[72, 65]⟩, .string ⟨#[116]⟩, .string ⟨#[116, 101, 65]⟩, .string ⟨#[78, 118, 65]⟩, .string ⟨#[72, 65]⟩, .string ⟨#[72, 65]⟩, .string ⟨#[72, 65]⟩, .string ⟨#[]⟩, .string ⟨#[]⟩, .string ⟨#[]⟩, .string ⟨#[65]⟩, .string ⟨#[69, 101, 118]⟩, .string ⟨#[78, 102, 117]⟩, .string ⟨#[118]⟩, .string ⟨#[72]⟩, .string ⟨#[]⟩]).cell hx
  have h19 : (k : Int) ≤ 18 := by omega
  unfold TX
  generalize (tells k).toArray = T at *
  clear hk
  go_enter Try.func58, Try.ntmps58
  go_wp2_with fail
  go_ret
  exact ⟨rfl, World.grownBy_alloc _ _ _⟩

set_option maxRecDepth 20000 in
set_option maxHeartbeats 1000000 in
theorem anum_any (p : PA) (c : UInt8) (w : World) : Calls Try.prog 49 #[paV p, .int .u8 (c.toNat : Int)] w fun e w' => e = .returned (.int .i64 (aNum p c)) ∧ w.grownBy w' none := by
  unfold aNum
  have key : c = 97 ∨ c = 78 ∨ c = 109 ∨ c = 115 ∨ c = 83 ∨ (c ≠ 97 ∧ c ≠ 78 ∧ c ≠ 109 ∧ c ≠ 115 ∧ c ≠ 83) := by
    by_cases h1 : c = 97 <;> by_cases h2 : c = 78 <;> by_cases h3 : c = 109 <;> by_cases h4 : c = 115 <;> by_cases h5 : c = 83 <;> simp [h1, h2, h3, h4, h5]
  obtain ⟨⟨h1, h2, h3⟩, ⟨t1, t2, t3⟩, n, o, x, a, q, m, s, b, g, v⟩ := p
  unfold paV paC txt
  dsimp only
  rcases key with rfl | rfl | rfl | rfl | rfl | ⟨k1, k2, k3, k4, k5⟩
  · rw [show (if (97 : UInt8) = 97 then a else if (97 : UInt8) = 78 then q else if (97 : UInt8) = 109 then m else if (97 : UInt8) = 115 then s else if (97 : UInt8) = 83 then b else g) = a from rfl]
    rw [show (((97 : UInt8).toNat : Nat) : Int) = 97 from rfl]
    go_enter Try.func49, Try.ntmps49
    go_wp2_with fail
    go_ret
    exact ⟨rfl, World.grownBy_alloc _ _ _⟩
  · rw [show (if (78 : UInt8) = 97 then a else if (78 : UInt8) = 78 then q else if (78 : UInt8) = 109 then m else if (78 : UInt8) = 115 then s else if (78 : UInt8) = 83 then b else g) = q from rfl]
    rw [show (((78 : UInt8).toNat : Nat) : Int) = 78 from rfl]
    go_enter Try.func49, Try.ntmps49
    go_wp2_with fail
    go_ret
    exact ⟨rfl, World.grownBy_alloc _ _ _⟩
  · rw [show (if (109 : UInt8) = 97 then a else if (109 : UInt8) = 78 then q else if (109 : UInt8) = 109 then m else if (109 : UInt8) = 115 then s else if (109 : UInt8) = 83 then b else g) = m from rfl]
    rw [show (((109 : UInt8).toNat : Nat) : Int) = 109 from rfl]
    go_enter Try.func49, Try.ntmps49
    go_wp2_with fail
    go_ret
    exact ⟨rfl, World.grownBy_alloc _ _ _⟩
  · rw [show (if (115 : UInt8) = 97 then a else if (115 : UInt8) = 78 then q else if (115 : UInt8) = 109 then m else if (115 : UInt8) = 115 then s else if (115 : UInt8) = 83 then b else g) = s from rfl]
    rw [show (((115 : UInt8).toNat : Nat) : Int) = 115 from rfl]
    go_enter Try.func49, Try.ntmps49
    go_wp2_with fail
    go_ret
    exact ⟨rfl, World.grownBy_alloc _ _ _⟩
  · rw [show (if (83 : UInt8) = 97 then a else if (83 : UInt8) = 78 then q else if (83 : UInt8) = 109 then m else if (83 : UInt8) = 115 then s else if (83 : UInt8) = 83 then b else g) = b from rfl]
    rw [show (((83 : UInt8).toNat : Nat) : Int) = 83 from rfl]
    go_enter Try.func49, Try.ntmps49
    go_wp2_with fail
    go_ret
    exact ⟨rfl, World.grownBy_alloc _ _ _⟩
  · rw [if_neg k1, if_neg k2, if_neg k3, if_neg k4, if_neg k5]
    have d : ∀ y : UInt8, c ≠ y → ¬ ((c.toNat : Int) = (y.toNat : Int)) := fun y h e => h (UInt8.toNat_inj.1 (by omega))
    have k1 : ¬ ((c.toNat : Int) = 97) := d 97 k1
    have k2 : ¬ ((c.toNat : Int) = 78) := d 78 k2
    have k3 : ¬ ((c.toNat : Int) = 109) := d 109 k3
    have k4 : ¬ ((c.toNat : Int) = 115) := d 115 k4
    have k5 : ¬ ((c.toNat : Int) = 83) := d 83 k5
    clear d
    generalize (c.toNat : Int) = cc at *
    go_enter Try.func49, Try.ntmps49
    go_wp2_with fail
    go_ret
    exact ⟨rfl, World.grownBy_alloc _ _ _⟩
end Go.Proofs.Ytpklgcinijlmmaa
