/- Types of bytes and texts. -/
import Derived.Test.YtnnhnkpbiilooaaRdr2
namespace Go.Proofs.Ytnnhnkpbiilooaa
open Go.RowKit

theorem und5 : Try.prog.underlying 5 = some (.int .u8) := by kernel_rfl
theorem und9 : Try.prog.underlying 9 = some .string := by kernel_rfl
end Go.Proofs.Ytnnhnkpbiilooaa
