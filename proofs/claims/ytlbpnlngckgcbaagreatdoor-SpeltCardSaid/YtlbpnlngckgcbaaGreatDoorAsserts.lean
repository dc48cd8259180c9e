import Derived.Test.YtlbpnlngckgcbaaGreatDoorTwice2
namespace Go.Proofs.YtlbpnlngckgcbaaGreatDoor
open Go.RowKit Go.PlainAid
set_option linter.unusedSimpArgs false
set_option linter.unusedVariables false

theorem ta_List_List (x : Value) (w : World) : (Instr.typeAssert (.iface 236 x) 157 236 true).run Tryz.prog w = .ok (.tuple #[x, .bool true]) w := by kernel_rfl
theorem ta_List_Own (x : Value) (w : World) : (Instr.typeAssert (.iface 236 x) 157 238 true).run Tryz.prog w = .ok (.tuple #[.agg #[.int .i64 0, .string ⟨#[]⟩], .bool false]) w := by kernel_rfl
theorem ta_List_Tie (x : Value) (w : World) : (Instr.typeAssert (.iface 236 x) 157 240 true).run Tryz.prog w = .ok (.tuple #[.agg #[.int .i64 0, .int .i64 0, .string ⟨#[]⟩, .int .i64 0, .string ⟨#[]⟩], .bool false]) w := by kernel_rfl
theorem ta_List_Either (x : Value) (w : World) : (Instr.typeAssert (.iface 236 x) 157 244 true).run Tryz.prog w = .ok (.tuple #[.agg #[.int .i64 0, .nilIface, .nilIface], .bool false]) w := by kernel_rfl
theorem ta_List_Both (x : Value) (w : World) : (Instr.typeAssert (.iface 236 x) 157 245 true).run Tryz.prog w = .ok (.tuple #[.agg #[.int .i64 0, .nilIface, .nilIface], .bool false]) w := by kernel_rfl
theorem ta_List_Less (x : Value) (w : World) : (Instr.typeAssert (.iface 236 x) 157 246 true).run Tryz.prog w = .ok (.tuple #[.agg #[.int .i64 0, .nilIface, .nilIface], .bool false]) w := by kernel_rfl
theorem ta_Own_List (x : Value) (w : World) : (Instr.typeAssert (.iface 238 x) 157 236 true).run Tryz.prog w = .ok (.tuple #[.agg #[.int .i64 0, .slice none 0 0], .bool false]) w := by kernel_rfl
theorem ta_Own_Own (x : Value) (w : World) : (Instr.typeAssert (.iface 238 x) 157 238 true).run Tryz.prog w = .ok (.tuple #[x, .bool true]) w := by kernel_rfl
theorem ta_Own_Tie (x : Value) (w : World) : (Instr.typeAssert (.iface 238 x) 157 240 true).run Tryz.prog w = .ok (.tuple #[.agg #[.int .i64 0, .int .i64 0, .string ⟨#[]⟩, .int .i64 0, .string ⟨#[]⟩], .bool false]) w := by kernel_rfl
theorem ta_Own_Either (x : Value) (w : World) : (Instr.typeAssert (.iface 238 x) 157 244 true).run Tryz.prog w = .ok (.tuple #[.agg #[.int .i64 0, .nilIface, .nilIface], .bool false]) w := by kernel_rfl
theorem ta_Own_Both (x : Value) (w : World) : (Instr.typeAssert (.iface 238 x) 157 245 true).run Tryz.prog w = .ok (.tuple #[.agg #[.int .i64 0, .nilIface, .nilIface], .bool false]) w := by kernel_rfl
theorem ta_Own_Less (x : Value) (w : World) : (Instr.typeAssert (.iface 238 x) 157 246 true).run Tryz.prog w = .ok (.tuple #[.agg #[.int .i64 0, .nilIface, .nilIface], .bool false]) w := by kernel_rfl
theorem ta_Tie_List (x : Value) (w : World) : (Instr.typeAssert (.iface 240 x) 157 236 true).run Tryz.prog w = .ok (.tuple #[.agg #[.int .i64 0, .slice none 0 0], .bool false]) w := by kernel_rfl
theorem ta_Tie_Own (x : Value) (w : World) : (Instr.typeAssert (.iface 240 x) 157 238 true).run Tryz.prog w = .ok (.tuple #[.agg #[.int .i64 0, .string ⟨#[]⟩], .bool false]) w := by kernel_rfl
theorem ta_Tie_Tie (x : Value) (w : World) : (Instr.typeAssert (.iface 240 x) 157 240 true).run Tryz.prog w = .ok (.tuple #[x, .bool true]) w := by kernel_rfl
theorem ta_Tie_Either (x : Value) (w : World) : (Instr.typeAssert (.iface 240 x) 157 244 true).run Tryz.prog w = .ok (.tuple #[.agg #[.int .i64 0, .nilIface, .nilIface], .bool false]) w := by kernel_rfl
theorem ta_Tie_Both (x : Value) (w : World) : (Instr.typeAssert (.iface 240 x) 157 245 true).run Tryz.prog w = .ok (.tuple #[.agg #[.int .i64 0, .nilIface, .nilIface], .bool false]) w := by kernel_rfl
theorem ta_Tie_Less (x : Value) (w : World) : (Instr.typeAssert (.iface 240 x) 157 246 true).run Tryz.prog w = .ok (.tuple #[.agg #[.int .i64 0, .nilIface, .nilIface], .bool false]) w := by kernel_rfl
theorem ta_Either_List (x : Value) (w : World) : (Instr.typeAssert (.iface 244 x) 157 236 true).run Tryz.prog w = .ok (.tuple #[.agg #[.int .i64 0, .slice none 0 0], .bool false]) w := by kernel_rfl
theorem ta_Either_Own (x : Value) (w : World) : (Instr.typeAssert (.iface 244 x) 157 238 true).run Tryz.prog w = .ok (.tuple #[.agg #[.int .i64 0, .string ⟨#[]⟩], .bool false]) w := by kernel_rfl
theorem ta_Either_Tie (x : Value) (w : World) : (Instr.typeAssert (.iface 244 x) 157 240 true).run Tryz.prog w = .ok (.tuple #[.agg #[.int .i64 0, .int .i64 0, .string ⟨#[]⟩, .int .i64 0, .string ⟨#[]⟩], .bool false]) w := by kernel_rfl
theorem ta_Either_Either (x : Value) (w : World) : (Instr.typeAssert (.iface 244 x) 157 244 true).run Tryz.prog w = .ok (.tuple #[x, .bool true]) w := by kernel_rfl
theorem ta_Either_Both (x : Value) (w : World) : (Instr.typeAssert (.iface 244 x) 157 245 true).run Tryz.prog w = .ok (.tuple #[.agg #[.int .i64 0, .nilIface, .nilIface], .bool false]) w := by kernel_rfl
theorem ta_Either_Less (x : Value) (w : World) : (Instr.typeAssert (.iface 244 x) 157 246 true).run Tryz.prog w = .ok (.tuple #[.agg #[.int .i64 0, .nilIface, .nilIface], .bool false]) w := by kernel_rfl
theorem ta_Both_List (x : Value) (w : World) : (Instr.typeAssert (.iface 245 x) 157 236 true).run Tryz.prog w = .ok (.tuple #[.agg #[.int .i64 0, .slice none 0 0], .bool false]) w := by kernel_rfl
theorem ta_Both_Own (x : Value) (w : World) : (Instr.typeAssert (.iface 245 x) 157 238 true).run Tryz.prog w = .ok (.tuple #[.agg #[.int .i64 0, .string ⟨#[]⟩], .bool false]) w := by kernel_rfl
theorem ta_Both_Tie (x : Value) (w : World) : (Instr.typeAssert (.iface 245 x) 157 240 true).run Tryz.prog w = .ok (.tuple #[.agg #[.int .i64 0, .int .i64 0, .string ⟨#[]⟩, .int .i64 0, .string ⟨#[]⟩], .bool false]) w := by kernel_rfl
theorem ta_Both_Either (x : Value) (w : World) : (Instr.typeAssert (.iface 245 x) 157 244 true).run Tryz.prog w = .ok (.tuple #[.agg #[.int .i64 0, .nilIface, .nilIface], .bool false]) w := by kernel_rfl
theorem ta_Both_Both (x : Value) (w : World) : (Instr.typeAssert (.iface 245 x) 157 245 true).run Tryz.prog w = .ok (.tuple #[x, .bool true]) w := by kernel_rfl
theorem ta_Both_Less (x : Value) (w : World) : (Instr.typeAssert (.iface 245 x) 157 246 true).run Tryz.prog w = .ok (.tuple #[.agg #[.int .i64 0, .nilIface, .nilIface], .bool false]) w := by kernel_rfl
theorem ta_Less_List (x : Value) (w : World) : (Instr.typeAssert (.iface 246 x) 157 236 true).run Tryz.prog w = .ok (.tuple #[.agg #[.int .i64 0, .slice none 0 0], .bool false]) w := by kernel_rfl
theorem ta_Less_Own (x : Value) (w : World) : (Instr.typeAssert (.iface 246 x) 157 238 true).run Tryz.prog w = .ok (.tuple #[.agg #[.int .i64 0, .string ⟨#[]⟩], .bool false]) w := by kernel_rfl
theorem ta_Less_Tie (x : Value) (w : World) : (Instr.typeAssert (.iface 246 x) 157 240 true).run Tryz.prog w = .ok (.tuple #[.agg #[.int .i64 0, .int .i64 0, .string ⟨#[]⟩, .int .i64 0, .string ⟨#[]⟩], .bool false]) w := by kernel_rfl
theorem ta_Less_Either (x : Value) (w : World) : (Instr.typeAssert (.iface 246 x) 157 244 true).run Tryz.prog w = .ok (.tuple #[.agg #[.int .i64 0, .nilIface, .nilIface], .bool false]) w := by kernel_rfl
theorem ta_Less_Both (x : Value) (w : World) : (Instr.typeAssert (.iface 246 x) 157 245 true).run Tryz.prog w = .ok (.tuple #[.agg #[.int .i64 0, .nilIface, .nilIface], .bool false]) w := by kernel_rfl
theorem ta_Less_Less (x : Value) (w : World) : (Instr.typeAssert (.iface 246 x) 157 246 true).run Tryz.prog w = .ok (.tuple #[x, .bool true]) w := by kernel_rfl
end Go.Proofs.YtlbpnlngckgcbaaGreatDoor
