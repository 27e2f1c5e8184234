/- What each statement of layer 4 begins with: the first example, and back. -/
import Derived.Test.YtpklgcinijlmmaaHanF
namespace Go.Proofs.Ytpklgcinijlmmaa
open Go.RowKit

theorem one_may : hMay ⟨0, 1, 0⟩ := by decide
theorem hB_16 (h : Hn) : (⟨(hB fnv h).toArray⟩ : ByteArray).extract 0 16 = ⟨(h16 h).toArray⟩ := by
  rw [extract_mid]
  rfl

end Go.Proofs.Ytpklgcinijlmmaa
