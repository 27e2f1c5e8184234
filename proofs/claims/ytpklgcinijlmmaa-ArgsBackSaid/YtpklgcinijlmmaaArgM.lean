/- Arguments as words: which arguments may be, of any procedure. -/
import Derived.Test.YtpklgcinijlmmaaArgC0
import Derived.Test.YtpklgcinijlmmaaArgC1
import Derived.Test.YtpklgcinijlmmaaArgC2
import Derived.Test.YtpklgcinijlmmaaArgC3
namespace Go.Proofs.Ytpklgcinijlmmaa
open Go.RowKit

theorem asks_len (k : Nat) : (asks k).length ≤ 100 := by
  unfold asks
  split <;> simp

theorem mayArgs_any (k : Nat) (hk : k < 19) (p : PA) (w : World) (hn : p.n.length ≤ 1000000000) (ho : p.o.length ≤ 1000000000) (hx : p.x.length ≤ 1000000000) :
    Calls Try.prog 43 #[.int .i64 (k : Int), paV p] w fun e w' => e = .returned (.bool (aMay (asks k) p)) ∧ w.grownBy w' none := by
  rcases (show k = 0 ∨ k = 1 ∨ k = 2 ∨ k = 3 ∨ k = 4 ∨ k = 5 ∨ k = 6 ∨ k = 7 ∨ k = 8 ∨ k = 9 ∨ k = 10 ∨ k = 11 ∨ k = 12 ∨ k = 13 ∨ k = 14 ∨ k = 15 ∨ k = 16 ∨ k = 17 ∨ k = 18 by omega) with rfl | rfl | rfl | rfl | rfl | rfl | rfl | rfl | rfl | rfl | rfl | rfl | rfl | rfl | rfl | rfl | rfl | rfl | rfl
  · exact mayArgs_0 0 hk rfl p w hn ho hx
  · exact mayArgs_1 1 hk rfl p w hn ho hx
  · exact mayArgs_2 2 hk rfl p w hn ho hx
  · exact mayArgs_3 3 hk rfl p w hn ho hx
  · exact mayArgs_1 4 hk rfl p w hn ho hx
  · exact mayArgs_4 5 hk rfl p w hn ho hx
  · exact mayArgs_5 6 hk rfl p w hn ho hx
  · exact mayArgs_6 7 hk rfl p w hn ho hx
  · exact mayArgs_7 8 hk rfl p w hn ho hx
  · exact mayArgs_8 9 hk rfl p w hn ho hx
  · exact mayArgs_3 10 hk rfl p w hn ho hx
  · exact mayArgs_3 11 hk rfl p w hn ho hx
  · exact mayArgs_9 12 hk rfl p w hn ho hx
  · exact mayArgs_10 13 hk rfl p w hn ho hx
  · exact mayArgs_11 14 hk rfl p w hn ho hx
  · exact mayArgs_1 15 hk rfl p w hn ho hx
  · exact mayArgs_1 16 hk rfl p w hn ho hx
  · exact mayArgs_3 17 hk rfl p w hn ho hx
  · exact mayArgs_3 18 hk rfl p w hn ho hx
end Go.Proofs.Ytpklgcinijlmmaa
