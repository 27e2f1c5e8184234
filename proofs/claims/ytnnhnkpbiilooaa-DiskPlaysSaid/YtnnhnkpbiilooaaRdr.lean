/- Contracts of xdr.Reader's methods. -/
import Derived.Test.YtnnhnkpbiilooaaBase
import Derived.Deep.QuietTactic
import Derived.BigQuiet
namespace Go.Proofs.Ytnnhnkpbiilooaa
open Go.RowKit

theorem und22 : Try.prog.underlying 52 = some (.slice 5) := by kernel_rfl
theorem siz5 : ∀ w, (Go.sizeOf 5).run Try.prog w = .ok 1 w := fun w => by
  have h : (Try.prog.info? 5).map (·.size) = some 1 := by kernel_rfl
  rcases hi : Try.prog.info? 5 with _ | i
  · simp [hi] at h
  · simp [hi] at h
    simp [Go.sizeOf, typeInfo, hi, h]

end Go.Proofs.Ytnnhnkpbiilooaa
