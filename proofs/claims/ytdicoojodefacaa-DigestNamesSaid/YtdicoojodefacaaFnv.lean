/- The sum of bytes (FNV-1a, 64 bits): plain facts. -/
import Derived.Test.YtdicoojodefacaaNum
namespace Go.Proofs.Ytdicoojodefacaa

/-- One byte more, in the sum: at a modulus m, a factor p. -/
def sumStep (m p u : Nat) (x : UInt8) : Nat := ((u ^^^ x.toNat) * p) % m
def sumOn (m p u : Nat) (l : List UInt8) : Nat := l.foldl (sumStep m p) u

theorem sumStep_lt {m p : Nat} (hm : 0 < m) (u : Nat) (x : UInt8) : sumStep m p u x < m := Nat.mod_lt _ hm
theorem sumOn_cons (m p u : Nat) (x : UInt8) (l : List UInt8) : sumOn m p u (x :: l) = sumOn m p (sumStep m p u x) l := rfl
theorem sumOn_lt {m p : Nat} (hm : 0 < m) (l : List UInt8) : ∀ u, u < m → sumOn m p u l < m := by
  induction l with
  | nil => intro u h; exact h
  | cons x l ih => intro u _; rw [sumOn_cons]; exact ih _ (sumStep_lt hm u x)
theorem sumOn_append (m p u : Nat) (a b : List UInt8) : sumOn m p u (a ++ b) = sumOn m p (sumOn m p u a) b := List.foldl_append
theorem sumOn_one (m p u : Nat) (x : UInt8) : sumOn m p u [x] = sumStep m p u x := rfl

def fnv0 : Nat := 14695981039346656037
def fnvP : Nat := 1099511628211
def fnvM : Nat := 18446744073709551616
theorem fnvM_pos : 0 < fnvM := Nat.lt_of_lt_of_eq (Nat.zero_lt_succ 18446744073709551615) rfl
theorem fnv0_lt : fnv0 < fnvM := by unfold fnv0 fnvM; omega

def fnv (l : List UInt8) : Nat := sumOn fnvM fnvP fnv0 l
theorem fnv_lt (l : List UInt8) : fnv l < fnvM := sumOn_lt fnvM_pos l fnv0 fnv0_lt
end Go.Proofs.Ytdicoojodefacaa
