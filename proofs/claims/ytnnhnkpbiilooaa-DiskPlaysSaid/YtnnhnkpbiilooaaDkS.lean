/- disk: what the statements go through: writes one behind the other; a slice made of no. -/
import Derived.Test.YtnnhnkpbiilooaaDkR
import Derived.Laws.MakeOwn
namespace Go.Proofs.Ytnnhnkpbiilooaa
open Go.RowKit Go.Maps

/-- Writes, one behind the other. -/
def adds (s : DS) (l : List (Nat × Bk)) : DS := { s with wt := s.wt ++ l, m := s.m + l.length }
theorem adds_nil (s : DS) : adds s [] = s := by unfold adds; simp
theorem adds_snoc (s : DS) (l : List (Nat × Bk)) (x : Nat × Bk) : (adds s l).add x.1 x.2 = adds s (l ++ [x]) := by
  unfold adds DS.add
  simp [Nat.add_assoc]
theorem write_add {s : DS} (hd : s.dd = false) (hl : s.lf = 0) {k : Nat} (hk : k < s.n) (b : Bk) : s.write (k : Int) b = (s.add k b, 0) := by
  rw [DS.write_on (DS.has_on hd (by omega) (by omega)), DS.count_0 (show (s.add k b).lf = 0 from hl)]
theorem flush_0 {s : DS} (hd : s.dd = false) (hl : s.lf = 0) : s.flush = (s.settle, 0) := by
  rw [DS.flush_n hd (by omega), DS.count_0 hl]
theorem read_at {s : DS} (hd : s.dd = false) {k : Nat} (hk : k < s.n) : s.read (k : Int) = (s.at k, 0) := by
  unfold DS.read
  rw [if_pos (DS.has_on hd (by omega) (by omega)), Int.toNat_natCast]

/-- The block that a byte names. -/
def num (x : UInt8) : Nat := (x % 64).toNat
theorem num_lt (x : UInt8) : num x < 64 := by
  unfold num
  rw [UInt8.toNat_mod]
  exact Nat.mod_lt _ (by decide)
theorem num_eq (x : UInt8) : (x.toNat : Int) % 64 = (num x : Int) := by
  unfold num
  rw [UInt8.toNat_mod]
  rfl

theorem make_bools (n : Nat) (hn : n ≤ 1000000) (w : World) : (Instr.makeSlice 38 (.int .i64 n) (.int .i64 n)).run Try.prog w = .ok (.slice (some ⟨w.heap.size, 0, none⟩) n n) (w.alloc (.cells ((List.replicate n false).map Value.bool).toArray 4)) := by
  obtain ⟨i, hi, hz0, hz1, hz2⟩ := info_parts infBo
  have h := run_makeSlice (P := Try.prog) w 38 4 i _ undBs hi hz0 .i64 .i64 n n (by omega) (Int.le_refl _) (by rw [hz1]; simp; omega) (by rw [hz2]; omega) (by omega)
  rw [hz1, Int.toNat_natCast, Nat.mul_one] at h
  have e : madeCells (Value.bool false).cells n = ((List.replicate n false).map Value.bool).toArray := by
    apply Array.ext'
    rw [show (Value.bool false).cells = #[Value.bool false] from rfl, toList_madeCells_one, List.map_replicate]
  rw [e] at h
  exact h

theorem num_wrap (x : UInt8) : IntKind.i64.wrap (num x : Int) = (num x : Int) := IntWalk.i64_in _ (by have := num_lt x; omega)
/-- What a byte's write is: where, and what. -/
def wrOf (g : UInt8 → UInt8) (x : UInt8) : Nat × Bk := (num x, Bk.of (g x))
theorem adds_dd (s : DS) (l : List (Nat × Bk)) : (adds s l).dd = s.dd := rfl
theorem adds_m (s : DS) (g : UInt8 → UInt8) (bs : List UInt8) (k : Nat) (hs : s.m ≤ 1000) (hk : k ≤ 1000) : (adds s ((bs.take k).map (wrOf g))).m ≤ 100000000 := by
  show s.m + ((bs.take k).map (wrOf g)).length ≤ _
  rw [List.length_map, List.length_take]
  omega
theorem adds_write {s : DS} (hd : s.dd = false) (hl : s.lf = 0) (h64 : 64 ≤ s.n) (l : List (Nat × Bk)) (x : UInt8) (b : Bk) : (adds s l).write (num x : Int) b = ((adds s l).add (num x) b, 0) := write_add (s := adds s l) hd hl (by have := num_lt x; show num x < s.n; omega) b
theorem adds_step (s : DS) (g : UInt8 → UInt8) {bs : List UInt8} {k : Nat} {x : UInt8} (h : bs.take (k + 1) = bs.take k ++ [x]) : (adds s ((bs.take k).map (wrOf g))).add (num x) (Bk.of (g x)) = adds s ((bs.take (k + 1)).map (wrOf g)) := by
  rw [h, List.map_append]
  exact adds_snoc s _ (wrOf g x)
theorem Bts.at' {w : World} {a : Option Addr} {n c : Nat} {bs : List UInt8} (h : Bts w (.slice a n c) bs) (h0 : 0 < bs.length) : ∃ b o, a = some ⟨b, o, none⟩ ∧ ∀ i (hi : i < bs.length), w.cell? ⟨b, o + i, none⟩ = some (.int .u8 (bs[i].toNat : Int)) := by
  rcases h with ⟨_, rfl⟩ | ⟨b, o, c', h1, _, _, h3⟩ | ⟨a', _, rfl⟩
  · simp at h0
  · cases h1
    exact ⟨b, o, rfl, h3⟩
  · simp at h0
/-- So many times yes, then no. -/
def yes (n k : Nat) : List Bool := List.replicate k true ++ List.replicate (n - k) false
theorem yes_len {n k : Nat} (h : k ≤ n) : (yes n k).length = n := by unfold yes; simp; omega
theorem yes_zero (n : Nat) : yes n 0 = List.replicate n false := by unfold yes; simp
theorem yes_set {n k : Nat} (h : k < n) : ((yes n k).map Value.bool).toArray.setIfInBounds k (.bool true) = ((yes n (k + 1)).map Value.bool).toArray := by
  have e : (yes n k).set k true = yes n (k + 1) := by
    unfold yes
    rw [List.set_append_right _ _ (by simp), show n - k = (n - (k + 1)) + 1 by omega, List.replicate_succ, List.length_replicate, Nat.sub_self, List.set_cons_zero, List.replicate_succ', List.append_assoc]
    rfl
  rw [← e]
  simp [List.map_set]
theorem yes_at {n k : Nat} (h : k < n) : ((yes n k).map Value.bool).toArray[k]? = some (.bool false) := by
  unfold yes
  rw [show n - k = (n - k - 1) + 1 by omega, List.replicate_succ]
  simp [List.getElem?_append_right]
theorem yes_all (n i : Nat) (h : i < n) : (yes n n).getD i false = true := by
  unfold yes
  simp [List.getD, h, List.getElem?_append_left]
end Go.Proofs.Ytnnhnkpbiilooaa
