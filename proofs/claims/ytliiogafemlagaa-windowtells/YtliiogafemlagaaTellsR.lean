/- WindowTells: its region that draws its order. -/
import Derived.Test.YtliiogafemlagaaEq
import Derived.Test.YtliiogafemlagaaDets
namespace Go.Proofs.Ytliiogafemlagaa
open Go.ChangeShapes Go.WideShapes Go.ChangeAt Go.RowKit Go.Shelf
set_option linter.unusedVariables false
set_option linter.unusedSimpArgs false
attribute [local go_sem] Oper.semAt_some

theorem enter9 (args : Array Value) (w : World) : (callFunc 9 args).run Try.prog w = .ok (.enter 9 args) w := by kernel_rfl
theorem enter10 (args : Array Value) (w : World) : (callFunc 10 args).run Try.prog w = .ok (.enter 10 args) w := by kernel_rfl
theorem enter17 (args : Array Value) (w : World) : (callFunc 17 args).run Try.prog w = .ok (.enter 17 args) w := by kernel_rfl
theorem enter19 (args : Array Value) (w : World) : (callFunc 19 args).run Try.prog w = .ok (.enter 19 args) w := by kernel_rfl
theorem enter20 (args : Array Value) (w : World) : (callFunc 20 args).run Try.prog w = .ok (.enter 20 args) w := by kernel_rfl
theorem enter22 (args : Array Value) (w : World) : (callFunc 22 args).run Try.prog w = .ok (.enter 22 args) w := by kernel_rfl
def te7O0 (ps : String) : Oper := { dst := some 57, op := .load 23 (.tmp 9), type := 23, pos := ps, after := #[], guard := none }
def te7O1 (ps : String) : Oper := { dst := some 58, op := .load 23 (.tmp 11), type := 23, pos := ps, after := #[], guard := none }
def te7O2 (ps : String) : Oper := { dst := some 59, op := .binOp .eql 23 (.tmp 57) (.tmp 58) 23, type := 4, pos := ps, after := #[{ on := 0, ground := .data }, { on := 1, ground := .data }], guard := none }
def te7O3 (ps : String) : Oper := { dst := some 60, op := .move (.tmp 59), type := 4, pos := ps, after := #[{ on := 2, ground := .data }], guard := none }
def te7O4 (ps : String) : Oper := { dst := some 61, op := .move (.tmp 10), type := 24, pos := ps, after := #[{ on := 3, ground := .guard }], guard := some (3, true) }
def te7O5 (ps : String) : Oper := { dst := some 62, op := .move (.tmp 12), type := 3, pos := ps, after := #[{ on := 3, ground := .guard }], guard := some (3, true) }
def te7O6 (ps : String) : Oper := { dst := some 63, op := .binOp .eql 3 (.tmp 61) (.tmp 62) 3, type := 4, pos := ps, after := #[{ on := 4, ground := .data }, { on := 5, ground := .data }, { on := 3, ground := .guard }], guard := some (3, true) }
def te7O7 (ps : String) : Oper := { dst := some 64, op := .pick (.tmp 60) (.tmp 63) (.const (.bool false)), type := 4, pos := ps, after := #[{ on := 3, ground := .data }, { on := 6, ground := .data }], guard := none }
def te7O8 (ps : String) : Oper := { dst := some 65, op := .move (.tmp 64), type := 4, pos := ps, after := #[{ on := 7, ground := .data }, { on := 3, ground := .chain }], guard := none }
def te7O9 (ps : String) : Oper := { dst := some 66, op := .load 23 (.tmp 13), type := 23, pos := ps, after := #[{ on := 8, ground := .guard }], guard := some (8, true) }
def te7O10 (ps : String) : Oper := { dst := some 67, op := .load 23 (.tmp 15), type := 23, pos := ps, after := #[{ on := 8, ground := .guard }], guard := some (8, true) }
def te7O11 (ps : String) : Oper := { dst := some 68, op := .binOp .eql 23 (.tmp 66) (.tmp 67) 23, type := 4, pos := ps, after := #[{ on := 9, ground := .data }, { on := 10, ground := .data }, { on := 8, ground := .guard }], guard := some (8, true) }
def te7O12 (ps : String) : Oper := { dst := some 69, op := .pick (.tmp 65) (.tmp 68) (.const (.bool false)), type := 4, pos := ps, after := #[{ on := 8, ground := .data }, { on := 11, ground := .data }], guard := none }
def te7O13 (ps : String) : Oper := { dst := some 70, op := .move (.tmp 69), type := 4, pos := ps, after := #[{ on := 12, ground := .data }, { on := 8, ground := .chain }], guard := none }
def te7O14 (ps : String) : Oper := { dst := some 71, op := .move (.tmp 14), type := 24, pos := ps, after := #[{ on := 13, ground := .guard }], guard := some (13, true) }
def te7O15 (ps : String) : Oper := { dst := some 72, op := .move (.tmp 16), type := 3, pos := ps, after := #[{ on := 13, ground := .guard }], guard := some (13, true) }
def te7O16 (ps : String) : Oper := { dst := some 73, op := .binOp .eql 3 (.tmp 71) (.tmp 72) 3, type := 4, pos := ps, after := #[{ on := 14, ground := .data }, { on := 15, ground := .data }, { on := 13, ground := .guard }], guard := some (13, true) }
def te7O17 (ps : String) : Oper := { dst := some 74, op := .pick (.tmp 70) (.tmp 73) (.const (.bool false)), type := 4, pos := ps, after := #[{ on := 13, ground := .data }, { on := 16, ground := .data }], guard := none }
def te7O18 (ps : String) : Oper := { dst := some 75, op := .move (.tmp 74), type := 4, pos := ps, after := #[{ on := 17, ground := .data }, { on := 13, ground := .chain }], guard := none }
def te7O19 (ps : String) : Oper := { dst := some 76, op := .load 23 (.tmp 17), type := 23, pos := ps, after := #[{ on := 18, ground := .guard }], guard := some (18, true) }
def te7O20 (ps : String) : Oper := { dst := some 77, op := .load 23 (.tmp 19), type := 23, pos := ps, after := #[{ on := 18, ground := .guard }], guard := some (18, true) }
def te7O21 (ps : String) : Oper := { dst := some 78, op := .binOp .eql 23 (.tmp 76) (.tmp 77) 23, type := 4, pos := ps, after := #[{ on := 19, ground := .data }, { on := 20, ground := .data }, { on := 18, ground := .guard }], guard := some (18, true) }
def te7O22 (ps : String) : Oper := { dst := some 79, op := .pick (.tmp 75) (.tmp 78) (.const (.bool false)), type := 4, pos := ps, after := #[{ on := 18, ground := .data }, { on := 21, ground := .data }], guard := none }
def te7O23 (ps : String) : Oper := { dst := some 80, op := .move (.tmp 79), type := 4, pos := ps, after := #[{ on := 22, ground := .data }, { on := 18, ground := .chain }], guard := none }
def te7O24 (ps : String) : Oper := { dst := some 81, op := .move (.tmp 18), type := 24, pos := ps, after := #[{ on := 23, ground := .guard }], guard := some (23, true) }
def te7O25 (ps : String) : Oper := { dst := some 82, op := .move (.tmp 20), type := 3, pos := ps, after := #[{ on := 23, ground := .guard }], guard := some (23, true) }
def te7O26 (ps : String) : Oper := { dst := some 83, op := .binOp .eql 3 (.tmp 81) (.tmp 82) 3, type := 4, pos := ps, after := #[{ on := 24, ground := .data }, { on := 25, ground := .data }, { on := 23, ground := .guard }], guard := some (23, true) }
def te7O27 (ps : String) : Oper := { dst := some 84, op := .pick (.tmp 80) (.tmp 83) (.const (.bool false)), type := 4, pos := ps, after := #[{ on := 23, ground := .data }, { on := 26, ground := .data }], guard := none }
def te7O28 (ps : String) : Oper := { dst := some 85, op := .move (.tmp 84), type := 4, pos := ps, after := #[{ on := 27, ground := .data }, { on := 23, ground := .chain }], guard := none }
def te7O29 (ps : String) : Oper := { dst := some 86, op := .load 23 (.tmp 4), type := 23, pos := ps, after := #[{ on := 28, ground := .guard }], guard := some (28, true) }
def te7O30 (ps : String) : Oper := { dst := some 87, op := .call { callee := .value (.func 8), args := #[.tmp 86], argTypes := #[23] }, type := 24, pos := ps, after := #[{ on := 29, ground := .data }, { on := 28, ground := .chain }, { on := 28, ground := .guard }], guard := some (28, true) }
def te7O31 (ps : String) : Oper := { dst := some 88, op := .load 23 (.tmp 4), type := 23, pos := ps, after := #[{ on := 28, ground := .guard }], guard := some (28, true) }
def te7O32 (ps : String) : Oper := { dst := some 89, op := .call { callee := .value (.func 17), args := #[.tmp 88], argTypes := #[23] }, type := 3, pos := ps, after := #[{ on := 31, ground := .data }, { on := 30, ground := .chain }, { on := 28, ground := .guard }], guard := some (28, true) }
def te7O33 (ps : String) : Oper := { dst := some 90, op := .binOp .eql 3 (.tmp 87) (.tmp 89) 3, type := 4, pos := ps, after := #[{ on := 30, ground := .data }, { on := 32, ground := .data }, { on := 28, ground := .guard }], guard := some (28, true) }
def te7O34 (ps : String) : Oper := { dst := some 91, op := .pick (.tmp 85) (.tmp 90) (.const (.bool false)), type := 4, pos := ps, after := #[{ on := 28, ground := .data }, { on := 33, ground := .data }], guard := none }
def te7O35 (ps : String) : Oper := { dst := some 92, op := .move (.tmp 91), type := 4, pos := ps, after := #[{ on := 34, ground := .data }, { on := 32, ground := .chain }], guard := none }
def te7O36 (ps : String) : Oper := { dst := some 93, op := .load 23 (.tmp 4), type := 23, pos := ps, after := #[{ on := 35, ground := .guard }], guard := some (35, true) }
def te7O37 (ps : String) : Oper := { dst := some 94, op := .call { callee := .value (.func 18), args := #[.tmp 93], argTypes := #[23] }, type := 3, pos := ps, after := #[{ on := 36, ground := .data }, { on := 35, ground := .chain }, { on := 35, ground := .guard }], guard := some (35, true) }
def te7O38 (ps : String) : Oper := { dst := some 95, op := .load 23 (.tmp 4), type := 23, pos := ps, after := #[{ on := 35, ground := .guard }], guard := some (35, true) }
def te7O39 (ps : String) : Oper := { dst := some 96, op := .call { callee := .value (.func 19), args := #[.tmp 95], argTypes := #[23] }, type := 3, pos := ps, after := #[{ on := 38, ground := .data }, { on := 37, ground := .chain }, { on := 35, ground := .guard }], guard := some (35, true) }
def te7O40 (ps : String) : Oper := { dst := some 97, op := .binOp .eql 3 (.tmp 94) (.tmp 96) 3, type := 4, pos := ps, after := #[{ on := 37, ground := .data }, { on := 39, ground := .data }, { on := 35, ground := .guard }], guard := some (35, true) }
def te7O41 (ps : String) : Oper := { dst := some 98, op := .pick (.tmp 92) (.tmp 97) (.const (.bool false)), type := 4, pos := ps, after := #[{ on := 35, ground := .data }, { on := 40, ground := .data }], guard := none }
def te7O42 (ps : String) : Oper := { dst := some 99, op := .move (.tmp 98), type := 4, pos := ps, after := #[{ on := 41, ground := .data }, { on := 39, ground := .chain }], guard := none }
def te7O43 (ps : String) : Oper := { dst := some 100, op := .load 23 (.tmp 4), type := 23, pos := ps, after := #[{ on := 42, ground := .guard }], guard := some (42, true) }
def te7O44 (ps : String) : Oper := { dst := some 101, op := .move (.tmp 1), type := 3, pos := ps, after := #[{ on := 42, ground := .guard }], guard := some (42, true) }
def te7O45 (ps : String) : Oper := { dst := some 102, op := .call { callee := .value (.func 10), args := #[.tmp 100, .tmp 101], argTypes := #[23, 3] }, type := 4, pos := ps, after := #[{ on := 43, ground := .data }, { on := 44, ground := .data }, { on := 42, ground := .chain }, { on := 42, ground := .guard }], guard := some (42, true) }
def te7O46 (ps : String) : Oper := { dst := some 103, op := .load 23 (.tmp 4), type := 23, pos := ps, after := #[{ on := 42, ground := .guard }], guard := some (42, true) }
def te7O47 (ps : String) : Oper := { dst := some 104, op := .move (.tmp 1), type := 3, pos := ps, after := #[{ on := 42, ground := .guard }], guard := some (42, true) }
def te7O48 (ps : String) : Oper := { dst := some 105, op := .call { callee := .value (.func 20), args := #[.tmp 103, .tmp 104], argTypes := #[23, 3] }, type := 4, pos := ps, after := #[{ on := 46, ground := .data }, { on := 47, ground := .data }, { on := 45, ground := .chain }, { on := 42, ground := .guard }], guard := some (42, true) }
def te7O49 (ps : String) : Oper := { dst := some 106, op := .binOp .eql 4 (.tmp 102) (.tmp 105) 4, type := 4, pos := ps, after := #[{ on := 45, ground := .data }, { on := 48, ground := .data }, { on := 42, ground := .guard }], guard := some (42, true) }
def te7O50 (ps : String) : Oper := { dst := some 107, op := .pick (.tmp 99) (.tmp 106) (.const (.bool false)), type := 4, pos := ps, after := #[{ on := 42, ground := .data }, { on := 49, ground := .data }], guard := none }
def te7O51 (ps : String) : Oper := { dst := some 108, op := .move (.tmp 107), type := 4, pos := ps, after := #[{ on := 50, ground := .data }, { on := 48, ground := .chain }], guard := none }
def te7O52 (ps : String) : Oper := { dst := some 109, op := .load 23 (.tmp 4), type := 23, pos := ps, after := #[{ on := 51, ground := .guard }], guard := some (51, true) }
def te7O53 (ps : String) : Oper := { dst := some 110, op := .move (.tmp 1), type := 3, pos := ps, after := #[{ on := 51, ground := .guard }], guard := some (51, true) }
def te7O54 (ps : String) : Oper := { dst := some 111, op := .move (.tmp 2), type := 3, pos := ps, after := #[{ on := 51, ground := .guard }], guard := some (51, true) }
def te7O55 (ps : String) : Oper := { dst := some 112, op := .move (.tmp 3), type := 3, pos := ps, after := #[{ on := 51, ground := .guard }], guard := some (51, true) }
def te7O56 (ps : String) : Oper := { dst := some 113, op := .call { callee := .value (.func 21), args := #[.tmp 109, .tmp 110, .tmp 111, .tmp 112], argTypes := #[23, 3, 3, 3] }, type := 3, pos := ps, after := #[{ on := 52, ground := .data }, { on := 53, ground := .data }, { on := 54, ground := .data }, { on := 55, ground := .data }, { on := 51, ground := .chain }, { on := 51, ground := .guard }], guard := some (51, true) }
def te7O57 (ps : String) : Oper := { dst := some 114, op := .load 23 (.tmp 4), type := 23, pos := ps, after := #[{ on := 51, ground := .guard }], guard := some (51, true) }
def te7O58 (ps : String) : Oper := { dst := some 115, op := .move (.tmp 1), type := 3, pos := ps, after := #[{ on := 51, ground := .guard }], guard := some (51, true) }
def te7O59 (ps : String) : Oper := { dst := some 116, op := .move (.tmp 2), type := 3, pos := ps, after := #[{ on := 51, ground := .guard }], guard := some (51, true) }
def te7O60 (ps : String) : Oper := { dst := some 117, op := .move (.tmp 3), type := 3, pos := ps, after := #[{ on := 51, ground := .guard }], guard := some (51, true) }
def te7O61 (ps : String) : Oper := { dst := some 118, op := .call { callee := .value (.func 22), args := #[.tmp 114, .tmp 115, .tmp 116, .tmp 117], argTypes := #[23, 3, 3, 3] }, type := 3, pos := ps, after := #[{ on := 57, ground := .data }, { on := 58, ground := .data }, { on := 59, ground := .data }, { on := 60, ground := .data }, { on := 56, ground := .chain }, { on := 51, ground := .guard }], guard := some (51, true) }
def te7O62 (ps : String) : Oper := { dst := some 119, op := .binOp .eql 3 (.tmp 113) (.tmp 118) 3, type := 4, pos := ps, after := #[{ on := 56, ground := .data }, { on := 61, ground := .data }, { on := 51, ground := .guard }], guard := some (51, true) }
def te7O63 (ps : String) : Oper := { dst := some 120, op := .pick (.tmp 108) (.tmp 119) (.const (.bool false)), type := 4, pos := ps, after := #[{ on := 51, ground := .data }, { on := 62, ground := .data }], guard := none }
def te7O64 (ps : String) : Oper := { dst := some 121, op := .move (.tmp 120), type := 4, pos := ps, after := #[{ on := 63, ground := .data }, { on := 61, ground := .chain }], guard := none }
def te7O65 (ps : String) : Oper := { dst := some 122, op := .call { callee := .value (.func 9), args := #[], argTypes := #[] }, type := 4, pos := ps, after := #[{ on := 64, ground := .chain }, { on := 64, ground := .guard }], guard := some (64, true) }
def te7O66 (ps : String) : Oper := { dst := some 123, op := .pick (.tmp 121) (.tmp 122) (.const (.bool false)), type := 4, pos := ps, after := #[{ on := 64, ground := .data }, { on := 65, ground := .data }], guard := none }
def te7O67 (ps : String) : Oper := { dst := some 8, op := .assign (.tmp 123), type := 4, pos := ps, after := ([{ on := 66, ground := .data }, { on := 65, ground := .chain }, { on := 0, ground := .phase }, { on := 1, ground := .phase }, { on := 2, ground := .phase }, { on := 3, ground := .phase }, { on := 4, ground := .phase }, { on := 5, ground := .phase }, { on := 6, ground := .phase }, { on := 7, ground := .phase }, { on := 8, ground := .phase }, { on := 9, ground := .phase }, { on := 10, ground := .phase }, { on := 11, ground := .phase }, { on := 12, ground := .phase }, { on := 13, ground := .phase }, { on := 14, ground := .phase }, { on := 15, ground := .phase }, { on := 16, ground := .phase }, { on := 17, ground := .phase }, { on := 18, ground := .phase }, { on := 19, ground := .phase }, { on := 20, ground := .phase }, { on := 21, ground := .phase }, { on := 22, ground := .phase }, { on := 23, ground := .phase }, { on := 24, ground := .phase }, { on := 25, ground := .phase }, { on := 26, ground := .phase }, { on := 27, ground := .phase }, { on := 28, ground := .phase }, { on := 29, ground := .phase }, { on := 30, ground := .phase }, { on := 31, ground := .phase }, { on := 32, ground := .phase }, { on := 33, ground := .phase }, { on := 34, ground := .phase }, { on := 35, ground := .phase }, { on := 36, ground := .phase }, { on := 37, ground := .phase }, { on := 38, ground := .phase }, { on := 39, ground := .phase }, { on := 40, ground := .phase }, { on := 41, ground := .phase }, { on := 42, ground := .phase }, { on := 43, ground := .phase }, { on := 44, ground := .phase }, { on := 45, ground := .phase }, { on := 46, ground := .phase }, { on := 47, ground := .phase }, { on := 48, ground := .phase }, { on := 49, ground := .phase }, { on := 50, ground := .phase }, { on := 51, ground := .phase }, { on := 52, ground := .phase }, { on := 53, ground := .phase }, { on := 54, ground := .phase }, { on := 55, ground := .phase }, { on := 56, ground := .phase }, { on := 57, ground := .phase }, { on := 58, ground := .phase }, { on := 59, ground := .phase }, { on := 60, ground := .phase }, { on := 61, ground := .phase }, { on := 62, ground := .phase }, { on := 63, ground := .phase }, { on := 64, ground := .phase }, { on := 65, ground := .phase }, { on := 66, ground := .phase }]).toArray, guard := none }
def te7 (ps : String) : Array Oper := #[te7O0 ps, te7O1 ps, te7O2 ps, te7O3 ps, te7O4 ps, te7O5 ps, te7O6 ps, te7O7 ps, te7O8 ps, te7O9 ps, te7O10 ps, te7O11 ps, te7O12 ps, te7O13 ps, te7O14 ps, te7O15 ps, te7O16 ps, te7O17 ps, te7O18 ps, te7O19 ps, te7O20 ps, te7O21 ps, te7O22 ps, te7O23 ps, te7O24 ps, te7O25 ps, te7O26 ps, te7O27 ps, te7O28 ps, te7O29 ps, te7O30 ps, te7O31 ps, te7O32 ps, te7O33 ps, te7O34 ps, te7O35 ps, te7O36 ps, te7O37 ps, te7O38 ps, te7O39 ps, te7O40 ps, te7O41 ps, te7O42 ps, te7O43 ps, te7O44 ps, te7O45 ps, te7O46 ps, te7O47 ps, te7O48 ps, te7O49 ps, te7O50 ps, te7O51 ps, te7O52 ps, te7O53 ps, te7O54 ps, te7O55 ps, te7O56 ps, te7O57 ps, te7O58 ps, te7O59 ps, te7O60 ps, te7O61 ps, te7O62 ps, te7O63 ps, te7O64 ps, te7O65 ps, te7O66 ps, te7O67 ps]
theorem te7_0 (ps : String) : (te7 ps)[0]? = some (te7O0 ps) := rfl
theorem te7_1 (ps : String) : (te7 ps)[1]? = some (te7O1 ps) := rfl
theorem te7_2 (ps : String) : (te7 ps)[2]? = some (te7O2 ps) := rfl
theorem te7_3 (ps : String) : (te7 ps)[3]? = some (te7O3 ps) := rfl
theorem te7_4 (ps : String) : (te7 ps)[4]? = some (te7O4 ps) := rfl
theorem te7_5 (ps : String) : (te7 ps)[5]? = some (te7O5 ps) := rfl
theorem te7_6 (ps : String) : (te7 ps)[6]? = some (te7O6 ps) := rfl
theorem te7_7 (ps : String) : (te7 ps)[7]? = some (te7O7 ps) := rfl
theorem te7_8 (ps : String) : (te7 ps)[8]? = some (te7O8 ps) := rfl
theorem te7_9 (ps : String) : (te7 ps)[9]? = some (te7O9 ps) := rfl
theorem te7_10 (ps : String) : (te7 ps)[10]? = some (te7O10 ps) := rfl
theorem te7_11 (ps : String) : (te7 ps)[11]? = some (te7O11 ps) := rfl
theorem te7_12 (ps : String) : (te7 ps)[12]? = some (te7O12 ps) := rfl
theorem te7_13 (ps : String) : (te7 ps)[13]? = some (te7O13 ps) := rfl
theorem te7_14 (ps : String) : (te7 ps)[14]? = some (te7O14 ps) := rfl
theorem te7_15 (ps : String) : (te7 ps)[15]? = some (te7O15 ps) := rfl
theorem te7_16 (ps : String) : (te7 ps)[16]? = some (te7O16 ps) := rfl
theorem te7_17 (ps : String) : (te7 ps)[17]? = some (te7O17 ps) := rfl
theorem te7_18 (ps : String) : (te7 ps)[18]? = some (te7O18 ps) := rfl
theorem te7_19 (ps : String) : (te7 ps)[19]? = some (te7O19 ps) := rfl
theorem te7_20 (ps : String) : (te7 ps)[20]? = some (te7O20 ps) := rfl
theorem te7_21 (ps : String) : (te7 ps)[21]? = some (te7O21 ps) := rfl
theorem te7_22 (ps : String) : (te7 ps)[22]? = some (te7O22 ps) := rfl
theorem te7_23 (ps : String) : (te7 ps)[23]? = some (te7O23 ps) := rfl
theorem te7_24 (ps : String) : (te7 ps)[24]? = some (te7O24 ps) := rfl
theorem te7_25 (ps : String) : (te7 ps)[25]? = some (te7O25 ps) := rfl
theorem te7_26 (ps : String) : (te7 ps)[26]? = some (te7O26 ps) := rfl
theorem te7_27 (ps : String) : (te7 ps)[27]? = some (te7O27 ps) := rfl
theorem te7_28 (ps : String) : (te7 ps)[28]? = some (te7O28 ps) := rfl
theorem te7_29 (ps : String) : (te7 ps)[29]? = some (te7O29 ps) := rfl
theorem te7_30 (ps : String) : (te7 ps)[30]? = some (te7O30 ps) := rfl
theorem te7_31 (ps : String) : (te7 ps)[31]? = some (te7O31 ps) := rfl
theorem te7_32 (ps : String) : (te7 ps)[32]? = some (te7O32 ps) := rfl
theorem te7_33 (ps : String) : (te7 ps)[33]? = some (te7O33 ps) := rfl
theorem te7_34 (ps : String) : (te7 ps)[34]? = some (te7O34 ps) := rfl
theorem te7_35 (ps : String) : (te7 ps)[35]? = some (te7O35 ps) := rfl
theorem te7_36 (ps : String) : (te7 ps)[36]? = some (te7O36 ps) := rfl
theorem te7_37 (ps : String) : (te7 ps)[37]? = some (te7O37 ps) := rfl
theorem te7_38 (ps : String) : (te7 ps)[38]? = some (te7O38 ps) := rfl
theorem te7_39 (ps : String) : (te7 ps)[39]? = some (te7O39 ps) := rfl
theorem te7_40 (ps : String) : (te7 ps)[40]? = some (te7O40 ps) := rfl
theorem te7_41 (ps : String) : (te7 ps)[41]? = some (te7O41 ps) := rfl
theorem te7_42 (ps : String) : (te7 ps)[42]? = some (te7O42 ps) := rfl
theorem te7_43 (ps : String) : (te7 ps)[43]? = some (te7O43 ps) := rfl
theorem te7_44 (ps : String) : (te7 ps)[44]? = some (te7O44 ps) := rfl
theorem te7_45 (ps : String) : (te7 ps)[45]? = some (te7O45 ps) := rfl
theorem te7_46 (ps : String) : (te7 ps)[46]? = some (te7O46 ps) := rfl
theorem te7_47 (ps : String) : (te7 ps)[47]? = some (te7O47 ps) := rfl
theorem te7_48 (ps : String) : (te7 ps)[48]? = some (te7O48 ps) := rfl
theorem te7_49 (ps : String) : (te7 ps)[49]? = some (te7O49 ps) := rfl
theorem te7_50 (ps : String) : (te7 ps)[50]? = some (te7O50 ps) := rfl
theorem te7_51 (ps : String) : (te7 ps)[51]? = some (te7O51 ps) := rfl
theorem te7_52 (ps : String) : (te7 ps)[52]? = some (te7O52 ps) := rfl
theorem te7_53 (ps : String) : (te7 ps)[53]? = some (te7O53 ps) := rfl
theorem te7_54 (ps : String) : (te7 ps)[54]? = some (te7O54 ps) := rfl
theorem te7_55 (ps : String) : (te7 ps)[55]? = some (te7O55 ps) := rfl
theorem te7_56 (ps : String) : (te7 ps)[56]? = some (te7O56 ps) := rfl
theorem te7_57 (ps : String) : (te7 ps)[57]? = some (te7O57 ps) := rfl
theorem te7_58 (ps : String) : (te7 ps)[58]? = some (te7O58 ps) := rfl
theorem te7_59 (ps : String) : (te7 ps)[59]? = some (te7O59 ps) := rfl
theorem te7_60 (ps : String) : (te7 ps)[60]? = some (te7O60 ps) := rfl
theorem te7_61 (ps : String) : (te7 ps)[61]? = some (te7O61 ps) := rfl
theorem te7_62 (ps : String) : (te7 ps)[62]? = some (te7O62 ps) := rfl
theorem te7_63 (ps : String) : (te7 ps)[63]? = some (te7O63 ps) := rfl
theorem te7_64 (ps : String) : (te7 ps)[64]? = some (te7O64 ps) := rfl
theorem te7_65 (ps : String) : (te7 ps)[65]? = some (te7O65 ps) := rfl
theorem te7_66 (ps : String) : (te7 ps)[66]? = some (te7O66 ps) := rfl
theorem te7_67 (ps : String) : (te7 ps)[67]? = some (te7O67 ps) := rfl
def te7D : Nat → Option Tmp
  | 0 => some 57
  | 1 => some 58
  | 2 => some 59
  | 3 => some 60
  | 4 => some 61
  | 5 => some 62
  | 6 => some 63
  | 7 => some 64
  | 8 => some 65
  | 9 => some 66
  | 10 => some 67
  | 11 => some 68
  | 12 => some 69
  | 13 => some 70
  | 14 => some 71
  | 15 => some 72
  | 16 => some 73
  | 17 => some 74
  | 18 => some 75
  | 19 => some 76
  | 20 => some 77
  | 21 => some 78
  | 22 => some 79
  | 23 => some 80
  | 24 => some 81
  | 25 => some 82
  | 26 => some 83
  | 27 => some 84
  | 28 => some 85
  | 29 => some 86
  | 30 => some 87
  | 31 => some 88
  | 32 => some 89
  | 33 => some 90
  | 34 => some 91
  | 35 => some 92
  | 36 => some 93
  | 37 => some 94
  | 38 => some 95
  | 39 => some 96
  | 40 => some 97
  | 41 => some 98
  | 42 => some 99
  | 43 => some 100
  | 44 => some 101
  | 45 => some 102
  | 46 => some 103
  | 47 => some 104
  | 48 => some 105
  | 49 => some 106
  | 50 => some 107
  | 51 => some 108
  | 52 => some 109
  | 53 => some 110
  | 54 => some 111
  | 55 => some 112
  | 56 => some 113
  | 57 => some 114
  | 58 => some 115
  | 59 => some 116
  | 60 => some 117
  | 61 => some 118
  | 62 => some 119
  | 63 => some 120
  | 64 => some 121
  | 65 => some 122
  | 66 => some 123
  | 67 => some 8
  | _ => none
def te7T (p fa ta na : Wn) (x y z r1 r2 r3 ck rg wa : Int) (sb : Bool) (gp ga gb gc gd ge gf B0 : Nat) (WW : World) : Nat → Value
  | 0 => agv (wnL fa)
  | 1 => agv (wnL fa)
  | 2 => .bool true
  | 3 => .bool true
  | 4 => .int .i64 r1
  | 5 => .int .i64 r1
  | 6 => .bool true
  | 7 => .bool true
  | 8 => .bool true
  | 9 => agv (wnL ta)
  | 10 => agv (wnL ta)
  | 11 => .bool true
  | 12 => .bool true
  | 13 => .bool true
  | 14 => .int .i64 r2
  | 15 => .int .i64 r2
  | 16 => .bool true
  | 17 => .bool true
  | 18 => .bool true
  | 19 => agv (wnL na)
  | 20 => agv (wnL na)
  | 21 => .bool true
  | 22 => .bool true
  | 23 => .bool true
  | 24 => .int .i64 r3
  | 25 => .int .i64 r3
  | 26 => .bool true
  | 27 => .bool true
  | 28 => .bool true
  | 29 => agv (wnL p)
  | 30 => .int .i64 ck
  | 31 => agv (wnL p)
  | 32 => .int .i64 ck
  | 33 => .bool true
  | 34 => .bool true
  | 35 => .bool true
  | 36 => agv (wnL p)
  | 37 => .int .i64 rg
  | 38 => agv (wnL p)
  | 39 => .int .i64 rg
  | 40 => .bool true
  | 41 => .bool true
  | 42 => .bool true
  | 43 => agv (wnL p)
  | 44 => .int .i64 x
  | 45 => .bool sb
  | 46 => agv (wnL p)
  | 47 => .int .i64 x
  | 48 => .bool sb
  | 49 => .bool true
  | 50 => .bool true
  | 51 => .bool true
  | 52 => agv (wnL p)
  | 53 => .int .i64 x
  | 54 => .int .i64 y
  | 55 => .int .i64 z
  | 56 => .int .i64 wa
  | 57 => agv (wnL p)
  | 58 => .int .i64 x
  | 59 => .int .i64 y
  | 60 => .int .i64 z
  | 61 => .int .i64 wa
  | 62 => .bool true
  | 63 => .bool true
  | 64 => .bool true
  | 65 => .bool true
  | 66 => .bool true
  | 67 => .bool true
  | _ => undef
set_option maxRecDepth 100000 in
set_option maxHeartbeats 4000000 in
theorem te7_reg {ps : String} {Q : Exit → Act → World → Prop} {a0 : Act} {W0 : World} (sz : a0.tmps.size = 124) (p fa ta na : Wn) (x y z r1 r2 r3 ck rg wa : Int) (sb : Bool) (gp ga gb gc gd ge gf B0 : Nat) (WW : World)
    (e1 : a0.eval (.tmp 1) = .int .i64 x) (e2 : a0.eval (.tmp 2) = .int .i64 y) (e3 : a0.eval (.tmp 3) = .int .i64 z) (e10 : a0.eval (.tmp 10) = .int .i64 r1) (e12 : a0.eval (.tmp 12) = .int .i64 r1) (e14 : a0.eval (.tmp 14) = .int .i64 r2) (e16 : a0.eval (.tmp 16) = .int .i64 r2) (e18 : a0.eval (.tmp 18) = .int .i64 r3) (e20 : a0.eval (.tmp 20) = .int .i64 r3) (e4 : a0.eval (.tmp 4) = .pointer (some ⟨gp, 0, none⟩)) (e9 : a0.eval (.tmp 9) = .pointer (some ⟨ga, 0, none⟩)) (e11 : a0.eval (.tmp 11) = .pointer (some ⟨gb, 0, none⟩)) (e13 : a0.eval (.tmp 13) = .pointer (some ⟨gc, 0, none⟩)) (e15 : a0.eval (.tmp 15) = .pointer (some ⟨gd, 0, none⟩)) (e17 : a0.eval (.tmp 17) = .pointer (some ⟨ge, 0, none⟩)) (e19 : a0.eval (.tmp 19) = .pointer (some ⟨gf, 0, none⟩))
    (l0 : B0 ≤ gp) (l1 : gp < ga) (l2 : ga < gb) (l3 : gb < gc) (l4 : gc < gd) (l5 : gd < ge) (l6 : ge < gf) (hS0 : Below B0 WW W0 ∧ Box W0 gp 23 (wnL p) ∧ Box W0 ga 23 (wnL fa) ∧ Box W0 gb 23 (wnL fa) ∧ Box W0 gc 23 (wnL ta) ∧ Box W0 gd 23 (wnL ta) ∧ Box W0 ge 23 (wnL na) ∧ Box W0 gf 23 (wnL na) ∧ True) (c7 : ∀ W, Calls Try.prog 8 #[agv (wnL p)] W fun e w' => e = .returned (.int .i64 ck) ∧ Below W.heap.size W w') (c8 : ∀ W, Calls Try.prog 17 #[agv (wnL p)] W fun e w' => e = .returned (.int .i64 ck) ∧ Below W.heap.size W w') (c9 : ∀ W, Calls Try.prog 18 #[agv (wnL p)] W fun e w' => e = .returned (.int .i64 rg) ∧ Below W.heap.size W w') (c10 : ∀ W, Calls Try.prog 19 #[agv (wnL p)] W fun e w' => e = .returned (.int .i64 rg) ∧ Below W.heap.size W w') (c11 : ∀ W, Calls Try.prog 10 #[agv (wnL p), .int .i64 x] W fun e w' => e = .returned (.bool sb) ∧ Below W.heap.size W w') (c12 : ∀ W, Calls Try.prog 20 #[agv (wnL p), .int .i64 x] W fun e w' => e = .returned (.bool sb) ∧ Below W.heap.size W w') (c13 : ∀ W, Calls Try.prog 21 #[agv (wnL p), .int .i64 x, .int .i64 y, .int .i64 z] W fun e w' => e = .returned (.int .i64 wa) ∧ Below W.heap.size W w') (c14 : ∀ W, Calls Try.prog 22 #[agv (wnL p), .int .i64 x, .int .i64 y, .int .i64 z] W fun e w' => e = .returned (.int .i64 wa) ∧ Below W.heap.size W w') (hd : ∀ W, Calls Try.prog 9 #[] W fun e w' => e = .returned (.bool true) ∧ Below W.heap.size W w') 
    (hfin : ∀ (T : Nat → Value) w, T 67 = .bool true → Below B0 WW w ∧ Box w gp 23 (wnL p) ∧ Box w ga 23 (wnL fa) ∧ Box w gb 23 (wnL fa) ∧ Box w gc 23 (wnL ta) ∧ Box w gd 23 (wnL ta) ∧ Box w ge 23 (wnL na) ∧ Box w gf 23 (wnL na) ∧ True → Q .normal ((((((((((((((((((((((((((((((((((((((((((((((((((((((((((((((((((((a0.put (some 57) (T 0)).put (some 58) (T 1)).put (some 59) (T 2)).put (some 60) (T 3)).put (some 61) (T 4)).put (some 62) (T 5)).put (some 63) (T 6)).put (some 64) (T 7)).put (some 65) (T 8)).put (some 66) (T 9)).put (some 67) (T 10)).put (some 68) (T 11)).put (some 69) (T 12)).put (some 70) (T 13)).put (some 71) (T 14)).put (some 72) (T 15)).put (some 73) (T 16)).put (some 74) (T 17)).put (some 75) (T 18)).put (some 76) (T 19)).put (some 77) (T 20)).put (some 78) (T 21)).put (some 79) (T 22)).put (some 80) (T 23)).put (some 81) (T 24)).put (some 82) (T 25)).put (some 83) (T 26)).put (some 84) (T 27)).put (some 85) (T 28)).put (some 86) (T 29)).put (some 87) (T 30)).put (some 88) (T 31)).put (some 89) (T 32)).put (some 90) (T 33)).put (some 91) (T 34)).put (some 92) (T 35)).put (some 93) (T 36)).put (some 94) (T 37)).put (some 95) (T 38)).put (some 96) (T 39)).put (some 97) (T 40)).put (some 98) (T 41)).put (some 99) (T 42)).put (some 100) (T 43)).put (some 101) (T 44)).put (some 102) (T 45)).put (some 103) (T 46)).put (some 104) (T 47)).put (some 105) (T 48)).put (some 106) (T 49)).put (some 107) (T 50)).put (some 108) (T 51)).put (some 109) (T 52)).put (some 110) (T 53)).put (some 111) (T 54)).put (some 112) (T 55)).put (some 113) (T 56)).put (some 114) (T 57)).put (some 115) (T 58)).put (some 116) (T 59)).put (some 117) (T 60)).put (some 118) (T 61)).put (some 119) (T 62)).put (some 120) (T 63)).put (some 121) (T 64)).put (some 122) (T 65)).put (some 123) (T 66)).put (some 8) (T 67)) w) :
    (Code.region 7 (te7 ps) true).wp Try.prog Q a0 W0 := by
  refine wp_region_dets (by kernel_rfl) 68 rfl te7D ?_ (by decide) (te7T p fa ta na x y z r1 r2 r3 ck rg wa sb gp ga gb gc gd ge gf B0 WW) (fun D w => Below B0 WW w ∧ Box w gp 23 (wnL p) ∧ Box w ga 23 (wnL fa) ∧ Box w gb 23 (wnL fa) ∧ Box w gc 23 (wnL ta) ∧ Box w gd 23 (wnL ta) ∧ Box w ge 23 (wnL na) ∧ Box w gf 23 (wnL na) ∧ True) (fun D _ => ⟨hS0.1.drew, hS0.2.1, hS0.2.2.1, hS0.2.2.2.1, hS0.2.2.2.2.1, hS0.2.2.2.2.2.1, hS0.2.2.2.2.2.2.1, hS0.2.2.2.2.2.2.2.1, trivial⟩) ?_ (by rfl) (fun w D _ hSw => hfin (te7T p fa ta na x y z r1 r2 r3 ck rg wa sb gp ga gb gc gd ge gf B0 WW) w rfl hSw)
  · intro jq t hj ht
    have : ∀ j, j < 68 → (te7D j).all (· < 124) = true := by decide
    have := this jq hj
    rw [ht] at this
    rw [sz]
    simpa using this
  · intro iq o ho D a w hSw hDi hcl hs hel K hK
    have hin : iq < 68 := (Array.getElem?_eq_some_iff.1 ho).1
    match iq, hin, ho with
    | 0, _, ho =>
      obtain rfl := Option.some.inj (ho.symm.trans (te7_0 ps))
      have u9 : a.eval (.tmp 9) = .pointer (some ⟨ga, 0, none⟩) := (hel 9 (by decide)).trans e9
      exact op_valW (te7_0 ps) rfl (v := agv (wnL fa)) (run_loadS isS23 rfl u9 hSw.2.2.1) (hK w (fun D' _ _ => hSw))
    | 1, _, ho =>
      obtain rfl := Option.some.inj (ho.symm.trans (te7_1 ps))
      have u11 : a.eval (.tmp 11) = .pointer (some ⟨gb, 0, none⟩) := (hel 11 (by decide)).trans e11
      exact op_valW (te7_1 ps) rfl (v := agv (wnL fa)) (run_loadS isS23 rfl u11 hSw.2.2.2.1) (hK w (fun D' _ _ => hSw))
    | 2, _, ho =>
      obtain rfl := Option.some.inj (ho.symm.trans (te7_2 ps))
      have s0 : a.eval (.tmp 57) = agv (wnL fa) := hs 0 57 (by rfl) rfl
      have s1 : a.eval (.tmp 58) = agv (wnL fa) := hs 1 58 (by rfl) rfl
      exact op_valW (te7_2 ps) rfl (v := .bool true) (run_cmpS rfl s0 s1 (.inl rfl) (cmpS _)) (hK w (fun D' _ _ => hSw))
    | 3, _, ho =>
      obtain rfl := Option.some.inj (ho.symm.trans (te7_3 ps))
      have s2 : a.eval (.tmp 59) = .bool true := hs 2 59 (by rfl) rfl
      exact op_valW (te7_3 ps) rfl (v := .bool true) (by unfold te7O3 execOp; simp only [s2]; first | (go_simp; done) | (go_simp; with_reducible rfl)) (hK w (fun D' _ _ => hSw))
    | 4, _, ho =>
      obtain rfl := Option.some.inj (ho.symm.trans (te7_4 ps))
      have s3 : a.eval (.tmp 60) = .bool true := hs 3 60 (by rfl) rfl
      have u10 : a.eval (.tmp 10) = .int .i64 r1 := (hel 10 (by decide)).trans e10
      exact op_valW (te7_4 ps) (by rw [wanted_of rfl (te7_3 ps) rfl s3]; rfl) (v := .int .i64 r1) (by unfold te7O4 execOp; simp only [u10]; first | (go_simp; done) | (go_simp; with_reducible rfl)) (hK w (fun D' _ _ => hSw))
    | 5, _, ho =>
      obtain rfl := Option.some.inj (ho.symm.trans (te7_5 ps))
      have s3 : a.eval (.tmp 60) = .bool true := hs 3 60 (by rfl) rfl
      have u12 : a.eval (.tmp 12) = .int .i64 r1 := (hel 12 (by decide)).trans e12
      exact op_valW (te7_5 ps) (by rw [wanted_of rfl (te7_3 ps) rfl s3]; rfl) (v := .int .i64 r1) (by unfold te7O5 execOp; simp only [u12]; first | (go_simp; done) | (go_simp; with_reducible rfl)) (hK w (fun D' _ _ => hSw))
    | 6, _, ho =>
      obtain rfl := Option.some.inj (ho.symm.trans (te7_6 ps))
      have s4 : a.eval (.tmp 61) = .int .i64 r1 := hs 4 61 (by rfl) rfl
      have s5 : a.eval (.tmp 62) = .int .i64 r1 := hs 5 62 (by rfl) rfl
      have s3 : a.eval (.tmp 60) = .bool true := hs 3 60 (by rfl) rfl
      exact op_valW (te7_6 ps) (by rw [wanted_of rfl (te7_3 ps) rfl s3]; rfl) (v := .bool true) (by unfold te7O6 execOp; simp only [s4, s5]; first | (go_simp; done) | (go_simp; with_reducible rfl)) (hK w (fun D' _ _ => hSw))
    | 7, _, ho =>
      obtain rfl := Option.some.inj (ho.symm.trans (te7_7 ps))
      have s3 : a.eval (.tmp 60) = .bool true := hs 3 60 (by rfl) rfl
      have s6 : a.eval (.tmp 63) = .bool true := hs 6 63 (by rfl) rfl
      exact op_valW (te7_7 ps) rfl (v := .bool true) (by unfold te7O7 execOp; simp only [s3, s6]; first | (go_simp; done) | (go_simp; with_reducible rfl)) (hK w (fun D' _ _ => hSw))
    | 8, _, ho =>
      obtain rfl := Option.some.inj (ho.symm.trans (te7_8 ps))
      have s7 : a.eval (.tmp 64) = .bool true := hs 7 64 (by rfl) rfl
      exact op_valW (te7_8 ps) rfl (v := .bool true) (by unfold te7O8 execOp; simp only [s7]; first | (go_simp; done) | (go_simp; with_reducible rfl)) (hK w (fun D' _ _ => hSw))
    | 9, _, ho =>
      obtain rfl := Option.some.inj (ho.symm.trans (te7_9 ps))
      have s8 : a.eval (.tmp 65) = .bool true := hs 8 65 (by rfl) rfl
      have u13 : a.eval (.tmp 13) = .pointer (some ⟨gc, 0, none⟩) := (hel 13 (by decide)).trans e13
      exact op_valW (te7_9 ps) (by rw [wanted_of rfl (te7_8 ps) rfl s8]; rfl) (v := agv (wnL ta)) (run_loadS isS23 rfl u13 hSw.2.2.2.2.1) (hK w (fun D' _ _ => hSw))
    | 10, _, ho =>
      obtain rfl := Option.some.inj (ho.symm.trans (te7_10 ps))
      have s8 : a.eval (.tmp 65) = .bool true := hs 8 65 (by rfl) rfl
      have u15 : a.eval (.tmp 15) = .pointer (some ⟨gd, 0, none⟩) := (hel 15 (by decide)).trans e15
      exact op_valW (te7_10 ps) (by rw [wanted_of rfl (te7_8 ps) rfl s8]; rfl) (v := agv (wnL ta)) (run_loadS isS23 rfl u15 hSw.2.2.2.2.2.1) (hK w (fun D' _ _ => hSw))
    | 11, _, ho =>
      obtain rfl := Option.some.inj (ho.symm.trans (te7_11 ps))
      have s9 : a.eval (.tmp 66) = agv (wnL ta) := hs 9 66 (by rfl) rfl
      have s10 : a.eval (.tmp 67) = agv (wnL ta) := hs 10 67 (by rfl) rfl
      have s8 : a.eval (.tmp 65) = .bool true := hs 8 65 (by rfl) rfl
      exact op_valW (te7_11 ps) (by rw [wanted_of rfl (te7_8 ps) rfl s8]; rfl) (v := .bool true) (run_cmpS rfl s9 s10 (.inl rfl) (cmpS _)) (hK w (fun D' _ _ => hSw))
    | 12, _, ho =>
      obtain rfl := Option.some.inj (ho.symm.trans (te7_12 ps))
      have s8 : a.eval (.tmp 65) = .bool true := hs 8 65 (by rfl) rfl
      have s11 : a.eval (.tmp 68) = .bool true := hs 11 68 (by rfl) rfl
      exact op_valW (te7_12 ps) rfl (v := .bool true) (by unfold te7O12 execOp; simp only [s8, s11]; first | (go_simp; done) | (go_simp; with_reducible rfl)) (hK w (fun D' _ _ => hSw))
    | 13, _, ho =>
      obtain rfl := Option.some.inj (ho.symm.trans (te7_13 ps))
      have s12 : a.eval (.tmp 69) = .bool true := hs 12 69 (by rfl) rfl
      exact op_valW (te7_13 ps) rfl (v := .bool true) (by unfold te7O13 execOp; simp only [s12]; first | (go_simp; done) | (go_simp; with_reducible rfl)) (hK w (fun D' _ _ => hSw))
    | 14, _, ho =>
      obtain rfl := Option.some.inj (ho.symm.trans (te7_14 ps))
      have s13 : a.eval (.tmp 70) = .bool true := hs 13 70 (by rfl) rfl
      have u14 : a.eval (.tmp 14) = .int .i64 r2 := (hel 14 (by decide)).trans e14
      exact op_valW (te7_14 ps) (by rw [wanted_of rfl (te7_13 ps) rfl s13]; rfl) (v := .int .i64 r2) (by unfold te7O14 execOp; simp only [u14]; first | (go_simp; done) | (go_simp; with_reducible rfl)) (hK w (fun D' _ _ => hSw))
    | 15, _, ho =>
      obtain rfl := Option.some.inj (ho.symm.trans (te7_15 ps))
      have s13 : a.eval (.tmp 70) = .bool true := hs 13 70 (by rfl) rfl
      have u16 : a.eval (.tmp 16) = .int .i64 r2 := (hel 16 (by decide)).trans e16
      exact op_valW (te7_15 ps) (by rw [wanted_of rfl (te7_13 ps) rfl s13]; rfl) (v := .int .i64 r2) (by unfold te7O15 execOp; simp only [u16]; first | (go_simp; done) | (go_simp; with_reducible rfl)) (hK w (fun D' _ _ => hSw))
    | 16, _, ho =>
      obtain rfl := Option.some.inj (ho.symm.trans (te7_16 ps))
      have s14 : a.eval (.tmp 71) = .int .i64 r2 := hs 14 71 (by rfl) rfl
      have s15 : a.eval (.tmp 72) = .int .i64 r2 := hs 15 72 (by rfl) rfl
      have s13 : a.eval (.tmp 70) = .bool true := hs 13 70 (by rfl) rfl
      exact op_valW (te7_16 ps) (by rw [wanted_of rfl (te7_13 ps) rfl s13]; rfl) (v := .bool true) (by unfold te7O16 execOp; simp only [s14, s15]; first | (go_simp; done) | (go_simp; with_reducible rfl)) (hK w (fun D' _ _ => hSw))
    | 17, _, ho =>
      obtain rfl := Option.some.inj (ho.symm.trans (te7_17 ps))
      have s13 : a.eval (.tmp 70) = .bool true := hs 13 70 (by rfl) rfl
      have s16 : a.eval (.tmp 73) = .bool true := hs 16 73 (by rfl) rfl
      exact op_valW (te7_17 ps) rfl (v := .bool true) (by unfold te7O17 execOp; simp only [s13, s16]; first | (go_simp; done) | (go_simp; with_reducible rfl)) (hK w (fun D' _ _ => hSw))
    | 18, _, ho =>
      obtain rfl := Option.some.inj (ho.symm.trans (te7_18 ps))
      have s17 : a.eval (.tmp 74) = .bool true := hs 17 74 (by rfl) rfl
      exact op_valW (te7_18 ps) rfl (v := .bool true) (by unfold te7O18 execOp; simp only [s17]; first | (go_simp; done) | (go_simp; with_reducible rfl)) (hK w (fun D' _ _ => hSw))
    | 19, _, ho =>
      obtain rfl := Option.some.inj (ho.symm.trans (te7_19 ps))
      have s18 : a.eval (.tmp 75) = .bool true := hs 18 75 (by rfl) rfl
      have u17 : a.eval (.tmp 17) = .pointer (some ⟨ge, 0, none⟩) := (hel 17 (by decide)).trans e17
      exact op_valW (te7_19 ps) (by rw [wanted_of rfl (te7_18 ps) rfl s18]; rfl) (v := agv (wnL na)) (run_loadS isS23 rfl u17 hSw.2.2.2.2.2.2.1) (hK w (fun D' _ _ => hSw))
    | 20, _, ho =>
      obtain rfl := Option.some.inj (ho.symm.trans (te7_20 ps))
      have s18 : a.eval (.tmp 75) = .bool true := hs 18 75 (by rfl) rfl
      have u19 : a.eval (.tmp 19) = .pointer (some ⟨gf, 0, none⟩) := (hel 19 (by decide)).trans e19
      exact op_valW (te7_20 ps) (by rw [wanted_of rfl (te7_18 ps) rfl s18]; rfl) (v := agv (wnL na)) (run_loadS isS23 rfl u19 hSw.2.2.2.2.2.2.2.1) (hK w (fun D' _ _ => hSw))
    | 21, _, ho =>
      obtain rfl := Option.some.inj (ho.symm.trans (te7_21 ps))
      have s19 : a.eval (.tmp 76) = agv (wnL na) := hs 19 76 (by rfl) rfl
      have s20 : a.eval (.tmp 77) = agv (wnL na) := hs 20 77 (by rfl) rfl
      have s18 : a.eval (.tmp 75) = .bool true := hs 18 75 (by rfl) rfl
      exact op_valW (te7_21 ps) (by rw [wanted_of rfl (te7_18 ps) rfl s18]; rfl) (v := .bool true) (run_cmpS rfl s19 s20 (.inl rfl) (cmpS _)) (hK w (fun D' _ _ => hSw))
    | 22, _, ho =>
      obtain rfl := Option.some.inj (ho.symm.trans (te7_22 ps))
      have s18 : a.eval (.tmp 75) = .bool true := hs 18 75 (by rfl) rfl
      have s21 : a.eval (.tmp 78) = .bool true := hs 21 78 (by rfl) rfl
      exact op_valW (te7_22 ps) rfl (v := .bool true) (by unfold te7O22 execOp; simp only [s18, s21]; first | (go_simp; done) | (go_simp; with_reducible rfl)) (hK w (fun D' _ _ => hSw))
    | 23, _, ho =>
      obtain rfl := Option.some.inj (ho.symm.trans (te7_23 ps))
      have s22 : a.eval (.tmp 79) = .bool true := hs 22 79 (by rfl) rfl
      exact op_valW (te7_23 ps) rfl (v := .bool true) (by unfold te7O23 execOp; simp only [s22]; first | (go_simp; done) | (go_simp; with_reducible rfl)) (hK w (fun D' _ _ => hSw))
    | 24, _, ho =>
      obtain rfl := Option.some.inj (ho.symm.trans (te7_24 ps))
      have s23 : a.eval (.tmp 80) = .bool true := hs 23 80 (by rfl) rfl
      have u18 : a.eval (.tmp 18) = .int .i64 r3 := (hel 18 (by decide)).trans e18
      exact op_valW (te7_24 ps) (by rw [wanted_of rfl (te7_23 ps) rfl s23]; rfl) (v := .int .i64 r3) (by unfold te7O24 execOp; simp only [u18]; first | (go_simp; done) | (go_simp; with_reducible rfl)) (hK w (fun D' _ _ => hSw))
    | 25, _, ho =>
      obtain rfl := Option.some.inj (ho.symm.trans (te7_25 ps))
      have s23 : a.eval (.tmp 80) = .bool true := hs 23 80 (by rfl) rfl
      have u20 : a.eval (.tmp 20) = .int .i64 r3 := (hel 20 (by decide)).trans e20
      exact op_valW (te7_25 ps) (by rw [wanted_of rfl (te7_23 ps) rfl s23]; rfl) (v := .int .i64 r3) (by unfold te7O25 execOp; simp only [u20]; first | (go_simp; done) | (go_simp; with_reducible rfl)) (hK w (fun D' _ _ => hSw))
    | 26, _, ho =>
      obtain rfl := Option.some.inj (ho.symm.trans (te7_26 ps))
      have s24 : a.eval (.tmp 81) = .int .i64 r3 := hs 24 81 (by rfl) rfl
      have s25 : a.eval (.tmp 82) = .int .i64 r3 := hs 25 82 (by rfl) rfl
      have s23 : a.eval (.tmp 80) = .bool true := hs 23 80 (by rfl) rfl
      exact op_valW (te7_26 ps) (by rw [wanted_of rfl (te7_23 ps) rfl s23]; rfl) (v := .bool true) (by unfold te7O26 execOp; simp only [s24, s25]; first | (go_simp; done) | (go_simp; with_reducible rfl)) (hK w (fun D' _ _ => hSw))
    | 27, _, ho =>
      obtain rfl := Option.some.inj (ho.symm.trans (te7_27 ps))
      have s23 : a.eval (.tmp 80) = .bool true := hs 23 80 (by rfl) rfl
      have s26 : a.eval (.tmp 83) = .bool true := hs 26 83 (by rfl) rfl
      exact op_valW (te7_27 ps) rfl (v := .bool true) (by unfold te7O27 execOp; simp only [s23, s26]; first | (go_simp; done) | (go_simp; with_reducible rfl)) (hK w (fun D' _ _ => hSw))
    | 28, _, ho =>
      obtain rfl := Option.some.inj (ho.symm.trans (te7_28 ps))
      have s27 : a.eval (.tmp 84) = .bool true := hs 27 84 (by rfl) rfl
      exact op_valW (te7_28 ps) rfl (v := .bool true) (by unfold te7O28 execOp; simp only [s27]; first | (go_simp; done) | (go_simp; with_reducible rfl)) (hK w (fun D' _ _ => hSw))
    | 29, _, ho =>
      obtain rfl := Option.some.inj (ho.symm.trans (te7_29 ps))
      have s28 : a.eval (.tmp 85) = .bool true := hs 28 85 (by rfl) rfl
      have u4 : a.eval (.tmp 4) = .pointer (some ⟨gp, 0, none⟩) := (hel 4 (by decide)).trans e4
      exact op_valW (te7_29 ps) (by rw [wanted_of rfl (te7_28 ps) rfl s28]; rfl) (v := agv (wnL p)) (run_loadS isS23 rfl u4 hSw.2.1) (hK w (fun D' _ _ => hSw))
    | 30, _, ho =>
      obtain rfl := Option.some.inj (ho.symm.trans (te7_30 ps))
      have s29 : a.eval (.tmp 86) = agv (wnL p) := hs 29 86 (by rfl) rfl
      have s28 : a.eval (.tmp 85) = .bool true := hs 28 85 (by rfl) rfl
      exact op_enterW (te7_30 ps) (by rw [wanted_of rfl (te7_28 ps) rfl s28]; rfl) (f := 8) (args := #[agv (wnL p)]) (by rw [run_call rfl enter8]; simp only [List.map_toArray, List.map_cons, List.map_nil, s29]; try rfl) ((c7 w).mono (fun e w' hh => ⟨_, hh.1, hK w' (fun D' _ _ => ⟨hSw.1.trans (hh.2.mono (Nat.le_trans l0 (Nat.le_of_lt hSw.2.1.lt))), hSw.2.1.later hh.2, hSw.2.2.1.later hh.2, hSw.2.2.2.1.later hh.2, hSw.2.2.2.2.1.later hh.2, hSw.2.2.2.2.2.1.later hh.2, hSw.2.2.2.2.2.2.1.later hh.2, hSw.2.2.2.2.2.2.2.1.later hh.2, trivial⟩)⟩))
    | 31, _, ho =>
      obtain rfl := Option.some.inj (ho.symm.trans (te7_31 ps))
      have s28 : a.eval (.tmp 85) = .bool true := hs 28 85 (by rfl) rfl
      have u4 : a.eval (.tmp 4) = .pointer (some ⟨gp, 0, none⟩) := (hel 4 (by decide)).trans e4
      exact op_valW (te7_31 ps) (by rw [wanted_of rfl (te7_28 ps) rfl s28]; rfl) (v := agv (wnL p)) (run_loadS isS23 rfl u4 hSw.2.1) (hK w (fun D' _ _ => hSw))
    | 32, _, ho =>
      obtain rfl := Option.some.inj (ho.symm.trans (te7_32 ps))
      have s31 : a.eval (.tmp 88) = agv (wnL p) := hs 31 88 (by rfl) rfl
      have s28 : a.eval (.tmp 85) = .bool true := hs 28 85 (by rfl) rfl
      exact op_enterW (te7_32 ps) (by rw [wanted_of rfl (te7_28 ps) rfl s28]; rfl) (f := 17) (args := #[agv (wnL p)]) (by rw [run_call rfl enter17]; simp only [List.map_toArray, List.map_cons, List.map_nil, s31]; try rfl) ((c8 w).mono (fun e w' hh => ⟨_, hh.1, hK w' (fun D' _ _ => ⟨hSw.1.trans (hh.2.mono (Nat.le_trans l0 (Nat.le_of_lt hSw.2.1.lt))), hSw.2.1.later hh.2, hSw.2.2.1.later hh.2, hSw.2.2.2.1.later hh.2, hSw.2.2.2.2.1.later hh.2, hSw.2.2.2.2.2.1.later hh.2, hSw.2.2.2.2.2.2.1.later hh.2, hSw.2.2.2.2.2.2.2.1.later hh.2, trivial⟩)⟩))
    | 33, _, ho =>
      obtain rfl := Option.some.inj (ho.symm.trans (te7_33 ps))
      have s30 : a.eval (.tmp 87) = .int .i64 ck := hs 30 87 (by rfl) rfl
      have s32 : a.eval (.tmp 89) = .int .i64 ck := hs 32 89 (by rfl) rfl
      have s28 : a.eval (.tmp 85) = .bool true := hs 28 85 (by rfl) rfl
      exact op_valW (te7_33 ps) (by rw [wanted_of rfl (te7_28 ps) rfl s28]; rfl) (v := .bool true) (by unfold te7O33 execOp; simp only [s30, s32]; first | (go_simp; done) | (go_simp; with_reducible rfl)) (hK w (fun D' _ _ => hSw))
    | 34, _, ho =>
      obtain rfl := Option.some.inj (ho.symm.trans (te7_34 ps))
      have s28 : a.eval (.tmp 85) = .bool true := hs 28 85 (by rfl) rfl
      have s33 : a.eval (.tmp 90) = .bool true := hs 33 90 (by rfl) rfl
      exact op_valW (te7_34 ps) rfl (v := .bool true) (by unfold te7O34 execOp; simp only [s28, s33]; first | (go_simp; done) | (go_simp; with_reducible rfl)) (hK w (fun D' _ _ => hSw))
    | 35, _, ho =>
      obtain rfl := Option.some.inj (ho.symm.trans (te7_35 ps))
      have s34 : a.eval (.tmp 91) = .bool true := hs 34 91 (by rfl) rfl
      exact op_valW (te7_35 ps) rfl (v := .bool true) (by unfold te7O35 execOp; simp only [s34]; first | (go_simp; done) | (go_simp; with_reducible rfl)) (hK w (fun D' _ _ => hSw))
    | 36, _, ho =>
      obtain rfl := Option.some.inj (ho.symm.trans (te7_36 ps))
      have s35 : a.eval (.tmp 92) = .bool true := hs 35 92 (by rfl) rfl
      have u4 : a.eval (.tmp 4) = .pointer (some ⟨gp, 0, none⟩) := (hel 4 (by decide)).trans e4
      exact op_valW (te7_36 ps) (by rw [wanted_of rfl (te7_35 ps) rfl s35]; rfl) (v := agv (wnL p)) (run_loadS isS23 rfl u4 hSw.2.1) (hK w (fun D' _ _ => hSw))
    | 37, _, ho =>
      obtain rfl := Option.some.inj (ho.symm.trans (te7_37 ps))
      have s36 : a.eval (.tmp 93) = agv (wnL p) := hs 36 93 (by rfl) rfl
      have s35 : a.eval (.tmp 92) = .bool true := hs 35 92 (by rfl) rfl
      exact op_enterW (te7_37 ps) (by rw [wanted_of rfl (te7_35 ps) rfl s35]; rfl) (f := 18) (args := #[agv (wnL p)]) (by rw [run_call rfl enter18]; simp only [List.map_toArray, List.map_cons, List.map_nil, s36]; try rfl) ((c9 w).mono (fun e w' hh => ⟨_, hh.1, hK w' (fun D' _ _ => ⟨hSw.1.trans (hh.2.mono (Nat.le_trans l0 (Nat.le_of_lt hSw.2.1.lt))), hSw.2.1.later hh.2, hSw.2.2.1.later hh.2, hSw.2.2.2.1.later hh.2, hSw.2.2.2.2.1.later hh.2, hSw.2.2.2.2.2.1.later hh.2, hSw.2.2.2.2.2.2.1.later hh.2, hSw.2.2.2.2.2.2.2.1.later hh.2, trivial⟩)⟩))
    | 38, _, ho =>
      obtain rfl := Option.some.inj (ho.symm.trans (te7_38 ps))
      have s35 : a.eval (.tmp 92) = .bool true := hs 35 92 (by rfl) rfl
      have u4 : a.eval (.tmp 4) = .pointer (some ⟨gp, 0, none⟩) := (hel 4 (by decide)).trans e4
      exact op_valW (te7_38 ps) (by rw [wanted_of rfl (te7_35 ps) rfl s35]; rfl) (v := agv (wnL p)) (run_loadS isS23 rfl u4 hSw.2.1) (hK w (fun D' _ _ => hSw))
    | 39, _, ho =>
      obtain rfl := Option.some.inj (ho.symm.trans (te7_39 ps))
      have s38 : a.eval (.tmp 95) = agv (wnL p) := hs 38 95 (by rfl) rfl
      have s35 : a.eval (.tmp 92) = .bool true := hs 35 92 (by rfl) rfl
      exact op_enterW (te7_39 ps) (by rw [wanted_of rfl (te7_35 ps) rfl s35]; rfl) (f := 19) (args := #[agv (wnL p)]) (by rw [run_call rfl enter19]; simp only [List.map_toArray, List.map_cons, List.map_nil, s38]; try rfl) ((c10 w).mono (fun e w' hh => ⟨_, hh.1, hK w' (fun D' _ _ => ⟨hSw.1.trans (hh.2.mono (Nat.le_trans l0 (Nat.le_of_lt hSw.2.1.lt))), hSw.2.1.later hh.2, hSw.2.2.1.later hh.2, hSw.2.2.2.1.later hh.2, hSw.2.2.2.2.1.later hh.2, hSw.2.2.2.2.2.1.later hh.2, hSw.2.2.2.2.2.2.1.later hh.2, hSw.2.2.2.2.2.2.2.1.later hh.2, trivial⟩)⟩))
    | 40, _, ho =>
      obtain rfl := Option.some.inj (ho.symm.trans (te7_40 ps))
      have s37 : a.eval (.tmp 94) = .int .i64 rg := hs 37 94 (by rfl) rfl
      have s39 : a.eval (.tmp 96) = .int .i64 rg := hs 39 96 (by rfl) rfl
      have s35 : a.eval (.tmp 92) = .bool true := hs 35 92 (by rfl) rfl
      exact op_valW (te7_40 ps) (by rw [wanted_of rfl (te7_35 ps) rfl s35]; rfl) (v := .bool true) (by unfold te7O40 execOp; simp only [s37, s39]; first | (go_simp; done) | (go_simp; with_reducible rfl)) (hK w (fun D' _ _ => hSw))
    | 41, _, ho =>
      obtain rfl := Option.some.inj (ho.symm.trans (te7_41 ps))
      have s35 : a.eval (.tmp 92) = .bool true := hs 35 92 (by rfl) rfl
      have s40 : a.eval (.tmp 97) = .bool true := hs 40 97 (by rfl) rfl
      exact op_valW (te7_41 ps) rfl (v := .bool true) (by unfold te7O41 execOp; simp only [s35, s40]; first | (go_simp; done) | (go_simp; with_reducible rfl)) (hK w (fun D' _ _ => hSw))
    | 42, _, ho =>
      obtain rfl := Option.some.inj (ho.symm.trans (te7_42 ps))
      have s41 : a.eval (.tmp 98) = .bool true := hs 41 98 (by rfl) rfl
      exact op_valW (te7_42 ps) rfl (v := .bool true) (by unfold te7O42 execOp; simp only [s41]; first | (go_simp; done) | (go_simp; with_reducible rfl)) (hK w (fun D' _ _ => hSw))
    | 43, _, ho =>
      obtain rfl := Option.some.inj (ho.symm.trans (te7_43 ps))
      have s42 : a.eval (.tmp 99) = .bool true := hs 42 99 (by rfl) rfl
      have u4 : a.eval (.tmp 4) = .pointer (some ⟨gp, 0, none⟩) := (hel 4 (by decide)).trans e4
      exact op_valW (te7_43 ps) (by rw [wanted_of rfl (te7_42 ps) rfl s42]; rfl) (v := agv (wnL p)) (run_loadS isS23 rfl u4 hSw.2.1) (hK w (fun D' _ _ => hSw))
    | 44, _, ho =>
      obtain rfl := Option.some.inj (ho.symm.trans (te7_44 ps))
      have s42 : a.eval (.tmp 99) = .bool true := hs 42 99 (by rfl) rfl
      have u1 : a.eval (.tmp 1) = .int .i64 x := (hel 1 (by decide)).trans e1
      exact op_valW (te7_44 ps) (by rw [wanted_of rfl (te7_42 ps) rfl s42]; rfl) (v := .int .i64 x) (by unfold te7O44 execOp; simp only [u1]; first | (go_simp; done) | (go_simp; with_reducible rfl)) (hK w (fun D' _ _ => hSw))
    | 45, _, ho =>
      obtain rfl := Option.some.inj (ho.symm.trans (te7_45 ps))
      have s43 : a.eval (.tmp 100) = agv (wnL p) := hs 43 100 (by rfl) rfl
      have s44 : a.eval (.tmp 101) = .int .i64 x := hs 44 101 (by rfl) rfl
      have s42 : a.eval (.tmp 99) = .bool true := hs 42 99 (by rfl) rfl
      exact op_enterW (te7_45 ps) (by rw [wanted_of rfl (te7_42 ps) rfl s42]; rfl) (f := 10) (args := #[agv (wnL p), .int .i64 x]) (by rw [run_call rfl enter10]; simp only [List.map_toArray, List.map_cons, List.map_nil, s43, s44]; try rfl) ((c11 w).mono (fun e w' hh => ⟨_, hh.1, hK w' (fun D' _ _ => ⟨hSw.1.trans (hh.2.mono (Nat.le_trans l0 (Nat.le_of_lt hSw.2.1.lt))), hSw.2.1.later hh.2, hSw.2.2.1.later hh.2, hSw.2.2.2.1.later hh.2, hSw.2.2.2.2.1.later hh.2, hSw.2.2.2.2.2.1.later hh.2, hSw.2.2.2.2.2.2.1.later hh.2, hSw.2.2.2.2.2.2.2.1.later hh.2, trivial⟩)⟩))
    | 46, _, ho =>
      obtain rfl := Option.some.inj (ho.symm.trans (te7_46 ps))
      have s42 : a.eval (.tmp 99) = .bool true := hs 42 99 (by rfl) rfl
      have u4 : a.eval (.tmp 4) = .pointer (some ⟨gp, 0, none⟩) := (hel 4 (by decide)).trans e4
      exact op_valW (te7_46 ps) (by rw [wanted_of rfl (te7_42 ps) rfl s42]; rfl) (v := agv (wnL p)) (run_loadS isS23 rfl u4 hSw.2.1) (hK w (fun D' _ _ => hSw))
    | 47, _, ho =>
      obtain rfl := Option.some.inj (ho.symm.trans (te7_47 ps))
      have s42 : a.eval (.tmp 99) = .bool true := hs 42 99 (by rfl) rfl
      have u1 : a.eval (.tmp 1) = .int .i64 x := (hel 1 (by decide)).trans e1
      exact op_valW (te7_47 ps) (by rw [wanted_of rfl (te7_42 ps) rfl s42]; rfl) (v := .int .i64 x) (by unfold te7O47 execOp; simp only [u1]; first | (go_simp; done) | (go_simp; with_reducible rfl)) (hK w (fun D' _ _ => hSw))
    | 48, _, ho =>
      obtain rfl := Option.some.inj (ho.symm.trans (te7_48 ps))
      have s46 : a.eval (.tmp 103) = agv (wnL p) := hs 46 103 (by rfl) rfl
      have s47 : a.eval (.tmp 104) = .int .i64 x := hs 47 104 (by rfl) rfl
      have s42 : a.eval (.tmp 99) = .bool true := hs 42 99 (by rfl) rfl
      exact op_enterW (te7_48 ps) (by rw [wanted_of rfl (te7_42 ps) rfl s42]; rfl) (f := 20) (args := #[agv (wnL p), .int .i64 x]) (by rw [run_call rfl enter20]; simp only [List.map_toArray, List.map_cons, List.map_nil, s46, s47]; try rfl) ((c12 w).mono (fun e w' hh => ⟨_, hh.1, hK w' (fun D' _ _ => ⟨hSw.1.trans (hh.2.mono (Nat.le_trans l0 (Nat.le_of_lt hSw.2.1.lt))), hSw.2.1.later hh.2, hSw.2.2.1.later hh.2, hSw.2.2.2.1.later hh.2, hSw.2.2.2.2.1.later hh.2, hSw.2.2.2.2.2.1.later hh.2, hSw.2.2.2.2.2.2.1.later hh.2, hSw.2.2.2.2.2.2.2.1.later hh.2, trivial⟩)⟩))
    | 49, _, ho =>
      obtain rfl := Option.some.inj (ho.symm.trans (te7_49 ps))
      have s45 : a.eval (.tmp 102) = .bool sb := hs 45 102 (by rfl) rfl
      have s48 : a.eval (.tmp 105) = .bool sb := hs 48 105 (by rfl) rfl
      have s42 : a.eval (.tmp 99) = .bool true := hs 42 99 (by rfl) rfl
      exact op_valW (te7_49 ps) (by rw [wanted_of rfl (te7_42 ps) rfl s42]; rfl) (v := .bool true) (by unfold te7O49 execOp; simp only [s45, s48]; first | (go_simp; done) | (go_simp; with_reducible rfl)) (hK w (fun D' _ _ => hSw))
    | 50, _, ho =>
      obtain rfl := Option.some.inj (ho.symm.trans (te7_50 ps))
      have s42 : a.eval (.tmp 99) = .bool true := hs 42 99 (by rfl) rfl
      have s49 : a.eval (.tmp 106) = .bool true := hs 49 106 (by rfl) rfl
      exact op_valW (te7_50 ps) rfl (v := .bool true) (by unfold te7O50 execOp; simp only [s42, s49]; first | (go_simp; done) | (go_simp; with_reducible rfl)) (hK w (fun D' _ _ => hSw))
    | 51, _, ho =>
      obtain rfl := Option.some.inj (ho.symm.trans (te7_51 ps))
      have s50 : a.eval (.tmp 107) = .bool true := hs 50 107 (by rfl) rfl
      exact op_valW (te7_51 ps) rfl (v := .bool true) (by unfold te7O51 execOp; simp only [s50]; first | (go_simp; done) | (go_simp; with_reducible rfl)) (hK w (fun D' _ _ => hSw))
    | 52, _, ho =>
      obtain rfl := Option.some.inj (ho.symm.trans (te7_52 ps))
      have s51 : a.eval (.tmp 108) = .bool true := hs 51 108 (by rfl) rfl
      have u4 : a.eval (.tmp 4) = .pointer (some ⟨gp, 0, none⟩) := (hel 4 (by decide)).trans e4
      exact op_valW (te7_52 ps) (by rw [wanted_of rfl (te7_51 ps) rfl s51]; rfl) (v := agv (wnL p)) (run_loadS isS23 rfl u4 hSw.2.1) (hK w (fun D' _ _ => hSw))
    | 53, _, ho =>
      obtain rfl := Option.some.inj (ho.symm.trans (te7_53 ps))
      have s51 : a.eval (.tmp 108) = .bool true := hs 51 108 (by rfl) rfl
      have u1 : a.eval (.tmp 1) = .int .i64 x := (hel 1 (by decide)).trans e1
      exact op_valW (te7_53 ps) (by rw [wanted_of rfl (te7_51 ps) rfl s51]; rfl) (v := .int .i64 x) (by unfold te7O53 execOp; simp only [u1]; first | (go_simp; done) | (go_simp; with_reducible rfl)) (hK w (fun D' _ _ => hSw))
    | 54, _, ho =>
      obtain rfl := Option.some.inj (ho.symm.trans (te7_54 ps))
      have s51 : a.eval (.tmp 108) = .bool true := hs 51 108 (by rfl) rfl
      have u2 : a.eval (.tmp 2) = .int .i64 y := (hel 2 (by decide)).trans e2
      exact op_valW (te7_54 ps) (by rw [wanted_of rfl (te7_51 ps) rfl s51]; rfl) (v := .int .i64 y) (by unfold te7O54 execOp; simp only [u2]; first | (go_simp; done) | (go_simp; with_reducible rfl)) (hK w (fun D' _ _ => hSw))
    | 55, _, ho =>
      obtain rfl := Option.some.inj (ho.symm.trans (te7_55 ps))
      have s51 : a.eval (.tmp 108) = .bool true := hs 51 108 (by rfl) rfl
      have u3 : a.eval (.tmp 3) = .int .i64 z := (hel 3 (by decide)).trans e3
      exact op_valW (te7_55 ps) (by rw [wanted_of rfl (te7_51 ps) rfl s51]; rfl) (v := .int .i64 z) (by unfold te7O55 execOp; simp only [u3]; first | (go_simp; done) | (go_simp; with_reducible rfl)) (hK w (fun D' _ _ => hSw))
    | 56, _, ho =>
      obtain rfl := Option.some.inj (ho.symm.trans (te7_56 ps))
      have s52 : a.eval (.tmp 109) = agv (wnL p) := hs 52 109 (by rfl) rfl
      have s53 : a.eval (.tmp 110) = .int .i64 x := hs 53 110 (by rfl) rfl
      have s54 : a.eval (.tmp 111) = .int .i64 y := hs 54 111 (by rfl) rfl
      have s55 : a.eval (.tmp 112) = .int .i64 z := hs 55 112 (by rfl) rfl
      have s51 : a.eval (.tmp 108) = .bool true := hs 51 108 (by rfl) rfl
      exact op_enterW (te7_56 ps) (by rw [wanted_of rfl (te7_51 ps) rfl s51]; rfl) (f := 21) (args := #[agv (wnL p), .int .i64 x, .int .i64 y, .int .i64 z]) (by rw [run_call rfl enter21]; simp only [List.map_toArray, List.map_cons, List.map_nil, s52, s53, s54, s55]; try rfl) ((c13 w).mono (fun e w' hh => ⟨_, hh.1, hK w' (fun D' _ _ => ⟨hSw.1.trans (hh.2.mono (Nat.le_trans l0 (Nat.le_of_lt hSw.2.1.lt))), hSw.2.1.later hh.2, hSw.2.2.1.later hh.2, hSw.2.2.2.1.later hh.2, hSw.2.2.2.2.1.later hh.2, hSw.2.2.2.2.2.1.later hh.2, hSw.2.2.2.2.2.2.1.later hh.2, hSw.2.2.2.2.2.2.2.1.later hh.2, trivial⟩)⟩))
    | 57, _, ho =>
      obtain rfl := Option.some.inj (ho.symm.trans (te7_57 ps))
      have s51 : a.eval (.tmp 108) = .bool true := hs 51 108 (by rfl) rfl
      have u4 : a.eval (.tmp 4) = .pointer (some ⟨gp, 0, none⟩) := (hel 4 (by decide)).trans e4
      exact op_valW (te7_57 ps) (by rw [wanted_of rfl (te7_51 ps) rfl s51]; rfl) (v := agv (wnL p)) (run_loadS isS23 rfl u4 hSw.2.1) (hK w (fun D' _ _ => hSw))
    | 58, _, ho =>
      obtain rfl := Option.some.inj (ho.symm.trans (te7_58 ps))
      have s51 : a.eval (.tmp 108) = .bool true := hs 51 108 (by rfl) rfl
      have u1 : a.eval (.tmp 1) = .int .i64 x := (hel 1 (by decide)).trans e1
      exact op_valW (te7_58 ps) (by rw [wanted_of rfl (te7_51 ps) rfl s51]; rfl) (v := .int .i64 x) (by unfold te7O58 execOp; simp only [u1]; first | (go_simp; done) | (go_simp; with_reducible rfl)) (hK w (fun D' _ _ => hSw))
    | 59, _, ho =>
      obtain rfl := Option.some.inj (ho.symm.trans (te7_59 ps))
      have s51 : a.eval (.tmp 108) = .bool true := hs 51 108 (by rfl) rfl
      have u2 : a.eval (.tmp 2) = .int .i64 y := (hel 2 (by decide)).trans e2
      exact op_valW (te7_59 ps) (by rw [wanted_of rfl (te7_51 ps) rfl s51]; rfl) (v := .int .i64 y) (by unfold te7O59 execOp; simp only [u2]; first | (go_simp; done) | (go_simp; with_reducible rfl)) (hK w (fun D' _ _ => hSw))
    | 60, _, ho =>
      obtain rfl := Option.some.inj (ho.symm.trans (te7_60 ps))
      have s51 : a.eval (.tmp 108) = .bool true := hs 51 108 (by rfl) rfl
      have u3 : a.eval (.tmp 3) = .int .i64 z := (hel 3 (by decide)).trans e3
      exact op_valW (te7_60 ps) (by rw [wanted_of rfl (te7_51 ps) rfl s51]; rfl) (v := .int .i64 z) (by unfold te7O60 execOp; simp only [u3]; first | (go_simp; done) | (go_simp; with_reducible rfl)) (hK w (fun D' _ _ => hSw))
    | 61, _, ho =>
      obtain rfl := Option.some.inj (ho.symm.trans (te7_61 ps))
      have s57 : a.eval (.tmp 114) = agv (wnL p) := hs 57 114 (by rfl) rfl
      have s58 : a.eval (.tmp 115) = .int .i64 x := hs 58 115 (by rfl) rfl
      have s59 : a.eval (.tmp 116) = .int .i64 y := hs 59 116 (by rfl) rfl
      have s60 : a.eval (.tmp 117) = .int .i64 z := hs 60 117 (by rfl) rfl
      have s51 : a.eval (.tmp 108) = .bool true := hs 51 108 (by rfl) rfl
      exact op_enterW (te7_61 ps) (by rw [wanted_of rfl (te7_51 ps) rfl s51]; rfl) (f := 22) (args := #[agv (wnL p), .int .i64 x, .int .i64 y, .int .i64 z]) (by rw [run_call rfl enter22]; simp only [List.map_toArray, List.map_cons, List.map_nil, s57, s58, s59, s60]; try rfl) ((c14 w).mono (fun e w' hh => ⟨_, hh.1, hK w' (fun D' _ _ => ⟨hSw.1.trans (hh.2.mono (Nat.le_trans l0 (Nat.le_of_lt hSw.2.1.lt))), hSw.2.1.later hh.2, hSw.2.2.1.later hh.2, hSw.2.2.2.1.later hh.2, hSw.2.2.2.2.1.later hh.2, hSw.2.2.2.2.2.1.later hh.2, hSw.2.2.2.2.2.2.1.later hh.2, hSw.2.2.2.2.2.2.2.1.later hh.2, trivial⟩)⟩))
    | 62, _, ho =>
      obtain rfl := Option.some.inj (ho.symm.trans (te7_62 ps))
      have s56 : a.eval (.tmp 113) = .int .i64 wa := hs 56 113 (by rfl) rfl
      have s61 : a.eval (.tmp 118) = .int .i64 wa := hs 61 118 (by rfl) rfl
      have s51 : a.eval (.tmp 108) = .bool true := hs 51 108 (by rfl) rfl
      exact op_valW (te7_62 ps) (by rw [wanted_of rfl (te7_51 ps) rfl s51]; rfl) (v := .bool true) (by unfold te7O62 execOp; simp only [s56, s61]; first | (go_simp; done) | (go_simp; with_reducible rfl)) (hK w (fun D' _ _ => hSw))
    | 63, _, ho =>
      obtain rfl := Option.some.inj (ho.symm.trans (te7_63 ps))
      have s51 : a.eval (.tmp 108) = .bool true := hs 51 108 (by rfl) rfl
      have s62 : a.eval (.tmp 119) = .bool true := hs 62 119 (by rfl) rfl
      exact op_valW (te7_63 ps) rfl (v := .bool true) (by unfold te7O63 execOp; simp only [s51, s62]; first | (go_simp; done) | (go_simp; with_reducible rfl)) (hK w (fun D' _ _ => hSw))
    | 64, _, ho =>
      obtain rfl := Option.some.inj (ho.symm.trans (te7_64 ps))
      have s63 : a.eval (.tmp 120) = .bool true := hs 63 120 (by rfl) rfl
      exact op_valW (te7_64 ps) rfl (v := .bool true) (by unfold te7O64 execOp; simp only [s63]; first | (go_simp; done) | (go_simp; with_reducible rfl)) (hK w (fun D' _ _ => hSw))
    | 65, _, ho =>
      obtain rfl := Option.some.inj (ho.symm.trans (te7_65 ps))
      have s64 : a.eval (.tmp 121) = .bool true := hs 64 121 (by rfl) rfl
      exact op_enterW (te7_65 ps) (by rw [wanted_of rfl (te7_64 ps) rfl s64]; rfl) (f := 9) (args := #[]) (by rw [run_call rfl enter9]; simp only [List.map_toArray, List.map_nil]; try rfl) ((hd w).mono (fun e w' hh => ⟨_, hh.1, hK w' (fun D' _ _ => ⟨hSw.1.trans (hh.2.mono (Nat.le_trans l0 (Nat.le_of_lt hSw.2.1.lt))), hSw.2.1.later hh.2, hSw.2.2.1.later hh.2, hSw.2.2.2.1.later hh.2, hSw.2.2.2.2.1.later hh.2, hSw.2.2.2.2.2.1.later hh.2, hSw.2.2.2.2.2.2.1.later hh.2, hSw.2.2.2.2.2.2.2.1.later hh.2, trivial⟩)⟩))
    | 66, _, ho =>
      obtain rfl := Option.some.inj (ho.symm.trans (te7_66 ps))
      have s64 : a.eval (.tmp 121) = .bool true := hs 64 121 (by rfl) rfl
      have s65 : a.eval (.tmp 122) = .bool true := hs 65 122 (by rfl) rfl
      exact op_valW (te7_66 ps) rfl (v := .bool true) (by unfold te7O66 execOp; simp only [s64, s65]; first | (go_simp; done) | (go_simp; with_reducible rfl)) (hK w (fun D' _ _ => hSw))
    | 67, _, ho =>
      obtain rfl := Option.some.inj (ho.symm.trans (te7_67 ps))
      have s66 : a.eval (.tmp 123) = .bool true := hs 66 123 (by rfl) rfl
      exact op_valW (te7_67 ps) rfl (v := .bool true) (by unfold te7O67 execOp; simp only [s66]; first | (go_simp; done) | (go_simp; with_reducible rfl)) (hK w (fun D' _ _ => hSw))
    | iq + 68, hin, _ => exact absurd hin (by omega)
end Go.Proofs.Ytliiogafemlagaa
