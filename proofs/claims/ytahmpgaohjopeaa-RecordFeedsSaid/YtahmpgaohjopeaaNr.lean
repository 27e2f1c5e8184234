/- xdr.NewReader, told as Rdr; the word of four bytes. -/
import Derived.Test.YtahmpgaohjopeaaWrd
namespace Go.Proofs.Ytahmpgaohjopeaa
open Go.RowKit

/-- A reader of bytes, made: it and its bytes lie in new blocks. -/
def MadeR (w : World) (bs : List UInt8) (e : Ending) (w' : World) : Prop :=
  ∃ r g, e = .returned (.pointer (some ⟨r, 0, none⟩)) ∧ Rdr w' r g bs false ∧ w.grownBy w' none ∧ w.heap.size ≤ r

set_option maxHeartbeats 400000 in
theorem newReader_r (v : Value) (bs : List UInt8) (w : World) (hv : Bts w v bs) (hl : bs.length ≤ 100000000000) :
    Calls Try.prog 34 #[v] w (MadeR w bs) := by
  have HC := Lib.hid (clone_any v bs w hv (by omega))
  obtain ⟨a, m, c, rfl⟩ := hv.shape
  clear hv hl
  go_enter Try.func34, Try.ntmps34
  go_wp2_with fail
  refine HC.out.mono ?_; rintro e w2 ⟨v2, rfl, h1, h2⟩
  obtain ⟨a2, n2, c2, rfl⟩ := h1.bts.shape
  have H1 := Lib.hid h1; have H2 := Lib.hid h2
  clear h1 h2
  go_wp2_with fail
  go_ret
  have hg := World.grownBy_alloc w2 (.cells #[.slice a2 n2 c2, .bool false] 72) none
  refine ⟨w2.heap.size, (Value.slice a2 n2 c2).ownBlock, rfl, ⟨.slice a2 n2 c2, Two.made w2 _ _ _, H1.out.bts.new hg, .inr rfl, ?_, fun h => by cases h⟩, World.grownBy.trans H2.out hg, H2.out.size⟩
  intro h
  have := (H1.out.lt _ h).2
  omega
end Go.Proofs.Ytahmpgaohjopeaa
