/- Contracts of xdr.Reader's methods: words and numbers. -/
import Derived.Test.YtnnhnkpbiilooaaRdr
import Derived.Test.YtnnhnkpbiilooaaNum
import Derived.Maps.AppendAt
import Derived.Deep.MidRow
import Derived.Laws.Cover3
namespace Go.Proofs.Ytnnhnkpbiilooaa
open Go.RowKit

theorem grownBy_none {w w' : World} (h : w.grownBy w' none) (row : Option Nat) : w.grownBy w' row := ⟨h.os, h.tape, h.output, h.size, fun k hk _ => h.block k hk (by simp)⟩

end Go.Proofs.Ytnnhnkpbiilooaa
