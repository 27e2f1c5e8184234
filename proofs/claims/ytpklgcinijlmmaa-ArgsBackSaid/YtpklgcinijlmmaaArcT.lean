/- Arguments as words, the code: which type a field has. -/
import Derived.Test.YtpklgcinijlmmaaArgA
namespace Go.Proofs.Ytpklgcinijlmmaa
open Go.RowKit

theorem ta_0_0 (w : World) (v : Value) : (Instr.typeAssert (.iface 97 v) 20 97 true).run Try.prog w = .ok (.tuple #[v, .bool true]) w := by kernel_rfl
theorem ta_1_0 (w : World) (v : Value) : (Instr.typeAssert (.iface 98 v) 20 97 true).run Try.prog w = .ok (.tuple #[.pointer none, .bool false]) w := by kernel_rfl
theorem ta_1_1 (w : World) (v : Value) : (Instr.typeAssert (.iface 98 v) 20 98 true).run Try.prog w = .ok (.tuple #[v, .bool true]) w := by kernel_rfl
theorem ta_2_0 (w : World) (v : Value) : (Instr.typeAssert (.iface 99 v) 20 97 true).run Try.prog w = .ok (.tuple #[.pointer none, .bool false]) w := by kernel_rfl
theorem ta_2_1 (w : World) (v : Value) : (Instr.typeAssert (.iface 99 v) 20 98 true).run Try.prog w = .ok (.tuple #[.pointer none, .bool false]) w := by kernel_rfl
theorem ta_2_2 (w : World) (v : Value) : (Instr.typeAssert (.iface 99 v) 20 99 true).run Try.prog w = .ok (.tuple #[v, .bool true]) w := by kernel_rfl
theorem ta_3_0 (w : World) (v : Value) : (Instr.typeAssert (.iface 102 v) 20 97 true).run Try.prog w = .ok (.tuple #[.pointer none, .bool false]) w := by kernel_rfl
theorem ta_3_1 (w : World) (v : Value) : (Instr.typeAssert (.iface 102 v) 20 98 true).run Try.prog w = .ok (.tuple #[.pointer none, .bool false]) w := by kernel_rfl
theorem ta_3_2 (w : World) (v : Value) : (Instr.typeAssert (.iface 102 v) 20 99 true).run Try.prog w = .ok (.tuple #[.pointer none, .bool false]) w := by kernel_rfl
theorem ta_3_3 (w : World) (v : Value) : (Instr.typeAssert (.iface 102 v) 20 102 true).run Try.prog w = .ok (.tuple #[v, .bool true]) w := by kernel_rfl
theorem ta_4_0 (w : World) (v : Value) : (Instr.typeAssert (.iface 103 v) 20 97 true).run Try.prog w = .ok (.tuple #[.pointer none, .bool false]) w := by kernel_rfl
theorem ta_4_1 (w : World) (v : Value) : (Instr.typeAssert (.iface 103 v) 20 98 true).run Try.prog w = .ok (.tuple #[.pointer none, .bool false]) w := by kernel_rfl
theorem ta_4_2 (w : World) (v : Value) : (Instr.typeAssert (.iface 103 v) 20 99 true).run Try.prog w = .ok (.tuple #[.pointer none, .bool false]) w := by kernel_rfl
theorem ta_4_3 (w : World) (v : Value) : (Instr.typeAssert (.iface 103 v) 20 102 true).run Try.prog w = .ok (.tuple #[.agg #[.pointer none, .int .i64 0], .bool false]) w := by kernel_rfl
theorem ta_4_4 (w : World) (v : Value) : (Instr.typeAssert (.iface 103 v) 20 103 true).run Try.prog w = .ok (.tuple #[v, .bool true]) w := by kernel_rfl
theorem ta_5_0 (w : World) (v : Value) : (Instr.typeAssert (.iface 104 v) 20 97 true).run Try.prog w = .ok (.tuple #[.pointer none, .bool false]) w := by kernel_rfl
theorem ta_5_1 (w : World) (v : Value) : (Instr.typeAssert (.iface 104 v) 20 98 true).run Try.prog w = .ok (.tuple #[.pointer none, .bool false]) w := by kernel_rfl
theorem ta_5_2 (w : World) (v : Value) : (Instr.typeAssert (.iface 104 v) 20 99 true).run Try.prog w = .ok (.tuple #[.pointer none, .bool false]) w := by kernel_rfl
theorem ta_5_3 (w : World) (v : Value) : (Instr.typeAssert (.iface 104 v) 20 102 true).run Try.prog w = .ok (.tuple #[.agg #[.pointer none, .int .i64 0], .bool false]) w := by kernel_rfl
theorem ta_5_4 (w : World) (v : Value) : (Instr.typeAssert (.iface 104 v) 20 103 true).run Try.prog w = .ok (.tuple #[.pointer none, .bool false]) w := by kernel_rfl
theorem ta_5_5 (w : World) (v : Value) : (Instr.typeAssert (.iface 104 v) 20 104 true).run Try.prog w = .ok (.tuple #[v, .bool true]) w := by kernel_rfl
theorem ta_6_0 (w : World) (v : Value) : (Instr.typeAssert (.iface 105 v) 20 97 true).run Try.prog w = .ok (.tuple #[.pointer none, .bool false]) w := by kernel_rfl
theorem ta_6_1 (w : World) (v : Value) : (Instr.typeAssert (.iface 105 v) 20 98 true).run Try.prog w = .ok (.tuple #[.pointer none, .bool false]) w := by kernel_rfl
theorem ta_6_2 (w : World) (v : Value) : (Instr.typeAssert (.iface 105 v) 20 99 true).run Try.prog w = .ok (.tuple #[.pointer none, .bool false]) w := by kernel_rfl
theorem ta_6_3 (w : World) (v : Value) : (Instr.typeAssert (.iface 105 v) 20 102 true).run Try.prog w = .ok (.tuple #[.agg #[.pointer none, .int .i64 0], .bool false]) w := by kernel_rfl
theorem ta_6_4 (w : World) (v : Value) : (Instr.typeAssert (.iface 105 v) 20 103 true).run Try.prog w = .ok (.tuple #[.pointer none, .bool false]) w := by kernel_rfl
theorem ta_6_5 (w : World) (v : Value) : (Instr.typeAssert (.iface 105 v) 20 104 true).run Try.prog w = .ok (.tuple #[.pointer none, .bool false]) w := by kernel_rfl
theorem ta_6_6 (w : World) (v : Value) : (Instr.typeAssert (.iface 105 v) 20 105 true).run Try.prog w = .ok (.tuple #[v, .bool true]) w := by kernel_rfl
theorem ta_7_0 (w : World) (v : Value) : (Instr.typeAssert (.iface 106 v) 20 97 true).run Try.prog w = .ok (.tuple #[.pointer none, .bool false]) w := by kernel_rfl
theorem ta_7_1 (w : World) (v : Value) : (Instr.typeAssert (.iface 106 v) 20 98 true).run Try.prog w = .ok (.tuple #[.pointer none, .bool false]) w := by kernel_rfl
theorem ta_7_2 (w : World) (v : Value) : (Instr.typeAssert (.iface 106 v) 20 99 true).run Try.prog w = .ok (.tuple #[.pointer none, .bool false]) w := by kernel_rfl
theorem ta_7_3 (w : World) (v : Value) : (Instr.typeAssert (.iface 106 v) 20 102 true).run Try.prog w = .ok (.tuple #[.agg #[.pointer none, .int .i64 0], .bool false]) w := by kernel_rfl
theorem ta_7_4 (w : World) (v : Value) : (Instr.typeAssert (.iface 106 v) 20 103 true).run Try.prog w = .ok (.tuple #[.pointer none, .bool false]) w := by kernel_rfl
theorem ta_7_5 (w : World) (v : Value) : (Instr.typeAssert (.iface 106 v) 20 104 true).run Try.prog w = .ok (.tuple #[.pointer none, .bool false]) w := by kernel_rfl
theorem ta_7_6 (w : World) (v : Value) : (Instr.typeAssert (.iface 106 v) 20 105 true).run Try.prog w = .ok (.tuple #[.pointer none, .bool false]) w := by kernel_rfl
theorem ta_7_7 (w : World) (v : Value) : (Instr.typeAssert (.iface 106 v) 20 106 true).run Try.prog w = .ok (.tuple #[v, .bool true]) w := by kernel_rfl
theorem ta_8_0 (w : World) (v : Value) : (Instr.typeAssert (.iface 110 v) 20 97 true).run Try.prog w = .ok (.tuple #[.pointer none, .bool false]) w := by kernel_rfl
theorem ta_8_1 (w : World) (v : Value) : (Instr.typeAssert (.iface 110 v) 20 98 true).run Try.prog w = .ok (.tuple #[.pointer none, .bool false]) w := by kernel_rfl
theorem ta_8_2 (w : World) (v : Value) : (Instr.typeAssert (.iface 110 v) 20 99 true).run Try.prog w = .ok (.tuple #[.pointer none, .bool false]) w := by kernel_rfl
theorem ta_8_3 (w : World) (v : Value) : (Instr.typeAssert (.iface 110 v) 20 102 true).run Try.prog w = .ok (.tuple #[.agg #[.pointer none, .int .i64 0], .bool false]) w := by kernel_rfl
theorem ta_8_4 (w : World) (v : Value) : (Instr.typeAssert (.iface 110 v) 20 103 true).run Try.prog w = .ok (.tuple #[.pointer none, .bool false]) w := by kernel_rfl
theorem ta_8_5 (w : World) (v : Value) : (Instr.typeAssert (.iface 110 v) 20 104 true).run Try.prog w = .ok (.tuple #[.pointer none, .bool false]) w := by kernel_rfl
theorem ta_8_6 (w : World) (v : Value) : (Instr.typeAssert (.iface 110 v) 20 105 true).run Try.prog w = .ok (.tuple #[.pointer none, .bool false]) w := by kernel_rfl
theorem ta_8_7 (w : World) (v : Value) : (Instr.typeAssert (.iface 110 v) 20 106 true).run Try.prog w = .ok (.tuple #[.pointer none, .bool false]) w := by kernel_rfl
theorem ta_8_8 (w : World) (v : Value) : (Instr.typeAssert (.iface 110 v) 20 110 true).run Try.prog w = .ok (.tuple #[v, .bool true]) w := by kernel_rfl
end Go.Proofs.Ytpklgcinijlmmaa
