/- The walk of BbrMoves. -/
import Derived.Test.YtagmighcofllhaaDoorRkA
import Derived.Test.YtagmighcofllhaaDoorRSame
import Derived.Test.YtagmighcofllhaaDoorRAsk
import Derived.Test.YtagmighcofllhaaDoorKHeads
namespace Go.Proofs.YtagmighcofllhaaDoor
open Go.ChangeShapes Go.WideShapes Go.ChangeAt Go.RowKit
set_option linter.unusedVariables false
set_option linter.unusedSimpArgs false

open Fil
theorem enter10 (args : Array Value) (w : World) : (callFunc 10 args).run Tryd.prog w = .ok (.enter 10 args) w := by kernel_rfl
theorem enter11 (args : Array Value) (w : World) : (callFunc 11 args).run Tryd.prog w = .ok (.enter 11 args) w := by kernel_rfl
theorem enter12 (args : Array Value) (w : World) : (callFunc 12 args).run Tryd.prog w = .ok (.enter 12 args) w := by kernel_rfl
theorem enter13 (args : Array Value) (w : World) : (callFunc 13 args).run Tryd.prog w = .ok (.enter 13 args) w := by kernel_rfl
theorem enter14 (args : Array Value) (w : World) : (callFunc 14 args).run Tryd.prog w = .ok (.enter 14 args) w := by kernel_rfl
theorem enter15 (args : Array Value) (w : World) : (callFunc 15 args).run Tryd.prog w = .ok (.enter 15 args) w := by kernel_rfl
theorem enter16 (args : Array Value) (w : World) : (callFunc 16 args).run Tryd.prog w = .ok (.enter 16 args) w := by kernel_rfl
theorem enter17 (args : Array Value) (w : World) : (callFunc 17 args).run Tryd.prog w = .ok (.enter 17 args) w := by kernel_rfl
theorem enter18 (args : Array Value) (w : World) : (callFunc 18 args).run Tryd.prog w = .ok (.enter 18 args) w := by kernel_rfl
theorem enter19 (args : Array Value) (w : World) : (callFunc 19 args).run Tryd.prog w = .ok (.enter 19 args) w := by kernel_rfl
def mv3O0 (ps : String) : Oper := { dst := some 21, op := .load 26 (.tmp 5), type := 26, pos := ps, after := #[], guard := none }
def mv3O1 (ps : String) : Oper := { dst := some 22, op := .load 26 (.tmp 7), type := 26, pos := ps, after := #[], guard := none }
def mv3O2 (ps : String) : Oper := { dst := some 23, op := .call { callee := .value (.func 10), args := #[.tmp 21, .tmp 22], argTypes := #[26, 26] }, type := 4, pos := ps, after := #[{ on := 0, ground := .data }, { on := 1, ground := .data }], guard := none }
def mv3O3 (ps : String) : Oper := { dst := some 24, op := .move (.tmp 23), type := 4, pos := ps, after := #[{ on := 2, ground := .data }, { on := 2, ground := .chain }], guard := none }
def mv3O4 (ps : String) : Oper := { dst := some 25, op := .move (.tmp 6), type := 29, pos := ps, after := #[{ on := 3, ground := .guard }], guard := some (3, true) }
def mv3O5 (ps : String) : Oper := { dst := some 26, op := .move (.tmp 8), type := 3, pos := ps, after := #[{ on := 3, ground := .guard }], guard := some (3, true) }
def mv3O6 (ps : String) : Oper := { dst := some 27, op := .binOp .eql 3 (.tmp 25) (.tmp 26) 3, type := 4, pos := ps, after := #[{ on := 4, ground := .data }, { on := 5, ground := .data }, { on := 3, ground := .guard }], guard := some (3, true) }
def mv3O7 (ps : String) : Oper := { dst := some 28, op := .pick (.tmp 24) (.tmp 27) (.const (.bool false)), type := 4, pos := ps, after := #[{ on := 3, ground := .data }, { on := 6, ground := .data }], guard := none }
def mv3O8 (ps : String) : Oper := { dst := some 29, op := .move (.tmp 28), type := 4, pos := ps, after := #[{ on := 7, ground := .data }, { on := 3, ground := .chain }], guard := none }
def mv3O9 (ps : String) : Oper := { dst := some 30, op := .load 26 (.tmp 2), type := 26, pos := ps, after := #[{ on := 8, ground := .guard }], guard := some (8, true) }
def mv3O10 (ps : String) : Oper := { dst := some 31, op := .call { callee := .value (.func 11), args := #[.tmp 30], argTypes := #[26] }, type := 29, pos := ps, after := #[{ on := 9, ground := .data }, { on := 8, ground := .chain }, { on := 8, ground := .guard }], guard := some (8, true) }
def mv3O11 (ps : String) : Oper := { dst := some 32, op := .load 26 (.tmp 2), type := 26, pos := ps, after := #[{ on := 8, ground := .guard }], guard := some (8, true) }
def mv3O12 (ps : String) : Oper := { dst := some 33, op := .call { callee := .value (.func 12), args := #[.tmp 32], argTypes := #[26] }, type := 3, pos := ps, after := #[{ on := 11, ground := .data }, { on := 10, ground := .chain }, { on := 8, ground := .guard }], guard := some (8, true) }
def mv3O13 (ps : String) : Oper := { dst := some 34, op := .binOp .eql 3 (.tmp 31) (.tmp 33) 3, type := 4, pos := ps, after := #[{ on := 10, ground := .data }, { on := 12, ground := .data }, { on := 8, ground := .guard }], guard := some (8, true) }
def mv3O14 (ps : String) : Oper := { dst := some 35, op := .pick (.tmp 29) (.tmp 34) (.const (.bool false)), type := 4, pos := ps, after := #[{ on := 8, ground := .data }, { on := 13, ground := .data }], guard := none }
def mv3O15 (ps : String) : Oper := { dst := some 36, op := .move (.tmp 35), type := 4, pos := ps, after := #[{ on := 14, ground := .data }, { on := 12, ground := .chain }], guard := none }
def mv3O16 (ps : String) : Oper := { dst := some 37, op := .load 26 (.tmp 2), type := 26, pos := ps, after := #[{ on := 15, ground := .guard }], guard := some (15, true) }
def mv3O17 (ps : String) : Oper := { dst := some 38, op := .call { callee := .value (.func 13), args := #[.tmp 37], argTypes := #[26] }, type := 3, pos := ps, after := #[{ on := 16, ground := .data }, { on := 15, ground := .chain }, { on := 15, ground := .guard }], guard := some (15, true) }
def mv3O18 (ps : String) : Oper := { dst := some 39, op := .load 26 (.tmp 2), type := 26, pos := ps, after := #[{ on := 15, ground := .guard }], guard := some (15, true) }
def mv3O19 (ps : String) : Oper := { dst := some 40, op := .call { callee := .value (.func 14), args := #[.tmp 39], argTypes := #[26] }, type := 3, pos := ps, after := #[{ on := 18, ground := .data }, { on := 17, ground := .chain }, { on := 15, ground := .guard }], guard := some (15, true) }
def mv3O20 (ps : String) : Oper := { dst := some 41, op := .binOp .eql 3 (.tmp 38) (.tmp 40) 3, type := 4, pos := ps, after := #[{ on := 17, ground := .data }, { on := 19, ground := .data }, { on := 15, ground := .guard }], guard := some (15, true) }
def mv3O21 (ps : String) : Oper := { dst := some 42, op := .pick (.tmp 36) (.tmp 41) (.const (.bool false)), type := 4, pos := ps, after := #[{ on := 15, ground := .data }, { on := 20, ground := .data }], guard := none }
def mv3O22 (ps : String) : Oper := { dst := some 43, op := .move (.tmp 42), type := 4, pos := ps, after := #[{ on := 21, ground := .data }, { on := 19, ground := .chain }], guard := none }
def mv3O23 (ps : String) : Oper := { dst := some 44, op := .load 26 (.tmp 2), type := 26, pos := ps, after := #[{ on := 22, ground := .guard }], guard := some (22, true) }
def mv3O24 (ps : String) : Oper := { dst := some 45, op := .call { callee := .value (.func 15), args := #[.tmp 44], argTypes := #[26] }, type := 3, pos := ps, after := #[{ on := 23, ground := .data }, { on := 22, ground := .chain }, { on := 22, ground := .guard }], guard := some (22, true) }
def mv3O25 (ps : String) : Oper := { dst := some 46, op := .load 26 (.tmp 2), type := 26, pos := ps, after := #[{ on := 22, ground := .guard }], guard := some (22, true) }
def mv3O26 (ps : String) : Oper := { dst := some 47, op := .call { callee := .value (.func 16), args := #[.tmp 46], argTypes := #[26] }, type := 3, pos := ps, after := #[{ on := 25, ground := .data }, { on := 24, ground := .chain }, { on := 22, ground := .guard }], guard := some (22, true) }
def mv3O27 (ps : String) : Oper := { dst := some 48, op := .binOp .eql 3 (.tmp 45) (.tmp 47) 3, type := 4, pos := ps, after := #[{ on := 24, ground := .data }, { on := 26, ground := .data }, { on := 22, ground := .guard }], guard := some (22, true) }
def mv3O28 (ps : String) : Oper := { dst := some 49, op := .pick (.tmp 43) (.tmp 48) (.const (.bool false)), type := 4, pos := ps, after := #[{ on := 22, ground := .data }, { on := 27, ground := .data }], guard := none }
def mv3O29 (ps : String) : Oper := { dst := some 50, op := .move (.tmp 49), type := 4, pos := ps, after := #[{ on := 28, ground := .data }, { on := 26, ground := .chain }], guard := none }
def mv3O30 (ps : String) : Oper := { dst := some 51, op := .load 26 (.tmp 2), type := 26, pos := ps, after := #[{ on := 29, ground := .guard }], guard := some (29, true) }
def mv3O31 (ps : String) : Oper := { dst := some 52, op := .call { callee := .value (.func 17), args := #[.tmp 51], argTypes := #[26] }, type := 3, pos := ps, after := #[{ on := 30, ground := .data }, { on := 29, ground := .chain }, { on := 29, ground := .guard }], guard := some (29, true) }
def mv3O32 (ps : String) : Oper := { dst := some 53, op := .load 26 (.tmp 2), type := 26, pos := ps, after := #[{ on := 29, ground := .guard }], guard := some (29, true) }
def mv3O33 (ps : String) : Oper := { dst := some 54, op := .call { callee := .value (.func 18), args := #[.tmp 53], argTypes := #[26] }, type := 3, pos := ps, after := #[{ on := 32, ground := .data }, { on := 31, ground := .chain }, { on := 29, ground := .guard }], guard := some (29, true) }
def mv3O34 (ps : String) : Oper := { dst := some 55, op := .binOp .eql 3 (.tmp 52) (.tmp 54) 3, type := 4, pos := ps, after := #[{ on := 31, ground := .data }, { on := 33, ground := .data }, { on := 29, ground := .guard }], guard := some (29, true) }
def mv3O35 (ps : String) : Oper := { dst := some 56, op := .pick (.tmp 50) (.tmp 55) (.const (.bool false)), type := 4, pos := ps, after := #[{ on := 29, ground := .data }, { on := 34, ground := .data }], guard := none }
def mv3O36 (ps : String) : Oper := { dst := some 57, op := .move (.tmp 56), type := 4, pos := ps, after := #[{ on := 35, ground := .data }, { on := 33, ground := .chain }], guard := none }
def mv3O37 (ps : String) : Oper := { dst := some 58, op := .call { callee := .value (.func 19), args := #[], argTypes := #[] }, type := 4, pos := ps, after := #[{ on := 36, ground := .chain }, { on := 36, ground := .guard }], guard := some (36, true) }
def mv3O38 (ps : String) : Oper := { dst := some 59, op := .pick (.tmp 57) (.tmp 58) (.const (.bool false)), type := 4, pos := ps, after := #[{ on := 36, ground := .data }, { on := 37, ground := .data }], guard := none }
def mv3O39 (ps : String) : Oper := { dst := some 4, op := .assign (.tmp 59), type := 4, pos := ps, after := #[{ on := 38, ground := .data }, { on := 37, ground := .chain }, { on := 0, ground := .phase }, { on := 1, ground := .phase }, { on := 2, ground := .phase }, { on := 3, ground := .phase }, { on := 4, ground := .phase }, { on := 5, ground := .phase }, { on := 6, ground := .phase }, { on := 7, ground := .phase }, { on := 8, ground := .phase }, { on := 9, ground := .phase }, { on := 10, ground := .phase }, { on := 11, ground := .phase }, { on := 12, ground := .phase }, { on := 13, ground := .phase }, { on := 14, ground := .phase }, { on := 15, ground := .phase }, { on := 16, ground := .phase }, { on := 17, ground := .phase }, { on := 18, ground := .phase }, { on := 19, ground := .phase }, { on := 20, ground := .phase }, { on := 21, ground := .phase }, { on := 22, ground := .phase }, { on := 23, ground := .phase }, { on := 24, ground := .phase }, { on := 25, ground := .phase }, { on := 26, ground := .phase }, { on := 27, ground := .phase }, { on := 28, ground := .phase }, { on := 29, ground := .phase }, { on := 30, ground := .phase }, { on := 31, ground := .phase }, { on := 32, ground := .phase }, { on := 33, ground := .phase }, { on := 34, ground := .phase }, { on := 35, ground := .phase }, { on := 36, ground := .phase }, { on := 37, ground := .phase }, { on := 38, ground := .phase }], guard := none }
def mv3 (ps : String) : Array Oper := #[mv3O0 ps, mv3O1 ps, mv3O2 ps, mv3O3 ps, mv3O4 ps, mv3O5 ps, mv3O6 ps, mv3O7 ps, mv3O8 ps, mv3O9 ps, mv3O10 ps, mv3O11 ps, mv3O12 ps, mv3O13 ps, mv3O14 ps, mv3O15 ps, mv3O16 ps, mv3O17 ps, mv3O18 ps, mv3O19 ps, mv3O20 ps, mv3O21 ps, mv3O22 ps, mv3O23 ps, mv3O24 ps, mv3O25 ps, mv3O26 ps, mv3O27 ps, mv3O28 ps, mv3O29 ps, mv3O30 ps, mv3O31 ps, mv3O32 ps, mv3O33 ps, mv3O34 ps, mv3O35 ps, mv3O36 ps, mv3O37 ps, mv3O38 ps, mv3O39 ps]
theorem mv3_0 (ps : String) : (mv3 ps)[0]? = some (mv3O0 ps) := rfl
theorem mv3_1 (ps : String) : (mv3 ps)[1]? = some (mv3O1 ps) := rfl
theorem mv3_2 (ps : String) : (mv3 ps)[2]? = some (mv3O2 ps) := rfl
theorem mv3_3 (ps : String) : (mv3 ps)[3]? = some (mv3O3 ps) := rfl
theorem mv3_4 (ps : String) : (mv3 ps)[4]? = some (mv3O4 ps) := rfl
theorem mv3_5 (ps : String) : (mv3 ps)[5]? = some (mv3O5 ps) := rfl
theorem mv3_6 (ps : String) : (mv3 ps)[6]? = some (mv3O6 ps) := rfl
theorem mv3_7 (ps : String) : (mv3 ps)[7]? = some (mv3O7 ps) := rfl
theorem mv3_8 (ps : String) : (mv3 ps)[8]? = some (mv3O8 ps) := rfl
theorem mv3_9 (ps : String) : (mv3 ps)[9]? = some (mv3O9 ps) := rfl
theorem mv3_10 (ps : String) : (mv3 ps)[10]? = some (mv3O10 ps) := rfl
theorem mv3_11 (ps : String) : (mv3 ps)[11]? = some (mv3O11 ps) := rfl
theorem mv3_12 (ps : String) : (mv3 ps)[12]? = some (mv3O12 ps) := rfl
theorem mv3_13 (ps : String) : (mv3 ps)[13]? = some (mv3O13 ps) := rfl
theorem mv3_14 (ps : String) : (mv3 ps)[14]? = some (mv3O14 ps) := rfl
theorem mv3_15 (ps : String) : (mv3 ps)[15]? = some (mv3O15 ps) := rfl
theorem mv3_16 (ps : String) : (mv3 ps)[16]? = some (mv3O16 ps) := rfl
theorem mv3_17 (ps : String) : (mv3 ps)[17]? = some (mv3O17 ps) := rfl
theorem mv3_18 (ps : String) : (mv3 ps)[18]? = some (mv3O18 ps) := rfl
theorem mv3_19 (ps : String) : (mv3 ps)[19]? = some (mv3O19 ps) := rfl
theorem mv3_20 (ps : String) : (mv3 ps)[20]? = some (mv3O20 ps) := rfl
theorem mv3_21 (ps : String) : (mv3 ps)[21]? = some (mv3O21 ps) := rfl
theorem mv3_22 (ps : String) : (mv3 ps)[22]? = some (mv3O22 ps) := rfl
theorem mv3_23 (ps : String) : (mv3 ps)[23]? = some (mv3O23 ps) := rfl
theorem mv3_24 (ps : String) : (mv3 ps)[24]? = some (mv3O24 ps) := rfl
theorem mv3_25 (ps : String) : (mv3 ps)[25]? = some (mv3O25 ps) := rfl
theorem mv3_26 (ps : String) : (mv3 ps)[26]? = some (mv3O26 ps) := rfl
theorem mv3_27 (ps : String) : (mv3 ps)[27]? = some (mv3O27 ps) := rfl
theorem mv3_28 (ps : String) : (mv3 ps)[28]? = some (mv3O28 ps) := rfl
theorem mv3_29 (ps : String) : (mv3 ps)[29]? = some (mv3O29 ps) := rfl
theorem mv3_30 (ps : String) : (mv3 ps)[30]? = some (mv3O30 ps) := rfl
theorem mv3_31 (ps : String) : (mv3 ps)[31]? = some (mv3O31 ps) := rfl
theorem mv3_32 (ps : String) : (mv3 ps)[32]? = some (mv3O32 ps) := rfl
theorem mv3_33 (ps : String) : (mv3 ps)[33]? = some (mv3O33 ps) := rfl
theorem mv3_34 (ps : String) : (mv3 ps)[34]? = some (mv3O34 ps) := rfl
theorem mv3_35 (ps : String) : (mv3 ps)[35]? = some (mv3O35 ps) := rfl
theorem mv3_36 (ps : String) : (mv3 ps)[36]? = some (mv3O36 ps) := rfl
theorem mv3_37 (ps : String) : (mv3 ps)[37]? = some (mv3O37 ps) := rfl
theorem mv3_38 (ps : String) : (mv3 ps)[38]? = some (mv3O38 ps) := rfl
theorem mv3_39 (ps : String) : (mv3 ps)[39]? = some (mv3O39 ps) := rfl
def mv3D : Nat → Option Tmp
  | 0 => some 21
  | 1 => some 22
  | 2 => some 23
  | 3 => some 24
  | 4 => some 25
  | 5 => some 26
  | 6 => some 27
  | 7 => some 28
  | 8 => some 29
  | 9 => some 30
  | 10 => some 31
  | 11 => some 32
  | 12 => some 33
  | 13 => some 34
  | 14 => some 35
  | 15 => some 36
  | 16 => some 37
  | 17 => some 38
  | 18 => some 39
  | 19 => some 40
  | 20 => some 41
  | 21 => some 42
  | 22 => some 43
  | 23 => some 44
  | 24 => some 45
  | 25 => some 46
  | 26 => some 47
  | 27 => some 48
  | 28 => some 49
  | 29 => some 50
  | 30 => some 51
  | 31 => some 52
  | 32 => some 53
  | 33 => some 54
  | 34 => some 55
  | 35 => some 56
  | 36 => some 57
  | 37 => some 58
  | 38 => some 59
  | 39 => some 4
  | _ => none
def mv3T (c ca cb : Cc) (p ga gb : Nat) (er x0 x1 x2 x3 : Int) : Nat → Value
  | 0 => ccv ca
  | 1 => ccv cb
  | 2 => .bool true
  | 3 => .bool true
  | 4 => .int .i64 er
  | 5 => .int .i64 er
  | 6 => .bool true
  | 7 => .bool true
  | 8 => .bool true
  | 9 => ccv c
  | 10 => .int .i64 x0
  | 11 => ccv c
  | 12 => .int .i64 x0
  | 13 => .bool true
  | 14 => .bool true
  | 15 => .bool true
  | 16 => ccv c
  | 17 => .int .i64 x1
  | 18 => ccv c
  | 19 => .int .i64 x1
  | 20 => .bool true
  | 21 => .bool true
  | 22 => .bool true
  | 23 => ccv c
  | 24 => .int .i64 x2
  | 25 => ccv c
  | 26 => .int .i64 x2
  | 27 => .bool true
  | 28 => .bool true
  | 29 => .bool true
  | 30 => ccv c
  | 31 => .int .i64 x3
  | 32 => ccv c
  | 33 => .int .i64 x3
  | 34 => .bool true
  | 35 => .bool true
  | 36 => .bool true
  | 37 => .bool true
  | 38 => .bool true
  | 39 => .bool true
  | _ => undef
set_option maxRecDepth 100000 in
set_option maxHeartbeats 4000000 in
theorem mv3_reg {ps : String} {Q : Exit → Act → World → Prop} {a0 : Act} {W0 W1 : World} (sz : a0.tmps.size = 60) (c ca cb : Cc) (p ga gb : Nat) (er x0 x1 x2 x3 : Int)
    (e2 : a0.eval (.tmp 2) = .pointer (some ⟨p, 0, none⟩)) (e5 : a0.eval (.tmp 5) = .pointer (some ⟨ga, 0, none⟩)) (e7 : a0.eval (.tmp 7) = .pointer (some ⟨gb, 0, none⟩)) (e6 : a0.eval (.tmp 6) = .int .i64 er) (e8 : a0.eval (.tmp 8) = .int .i64 er)
    (hb : Box W1 p 26 (ccL c)) (hb1 : Box W1 ga 26 (ccL ca)) (hb2 : Box W1 gb 26 (ccL cb)) (hW : W0 = W1) (c10 : ∀ W, Below W1.heap.size W1 W → Calls Tryd.prog 10 #[ccv ca, ccv cb] W fun e w' => e = .returned (.bool true) ∧ Below W.heap.size W w') (c11 : ∀ W, Below W1.heap.size W1 W → Calls Tryd.prog 11 #[ccv c] W fun e w' => e = .returned (.int .i64 x0) ∧ Below W.heap.size W w') (c12 : ∀ W, Below W1.heap.size W1 W → Calls Tryd.prog 12 #[ccv c] W fun e w' => e = .returned (.int .i64 x0) ∧ Below W.heap.size W w') (c13 : ∀ W, Below W1.heap.size W1 W → Calls Tryd.prog 13 #[ccv c] W fun e w' => e = .returned (.int .i64 x1) ∧ Below W.heap.size W w') (c14 : ∀ W, Below W1.heap.size W1 W → Calls Tryd.prog 14 #[ccv c] W fun e w' => e = .returned (.int .i64 x1) ∧ Below W.heap.size W w') (c15 : ∀ W, Below W1.heap.size W1 W → Calls Tryd.prog 15 #[ccv c] W fun e w' => e = .returned (.int .i64 x2) ∧ Below W.heap.size W w') (c16 : ∀ W, Below W1.heap.size W1 W → Calls Tryd.prog 16 #[ccv c] W fun e w' => e = .returned (.int .i64 x2) ∧ Below W.heap.size W w') (c17 : ∀ W, Below W1.heap.size W1 W → Calls Tryd.prog 17 #[ccv c] W fun e w' => e = .returned (.int .i64 x3) ∧ Below W.heap.size W w') (c18 : ∀ W, Below W1.heap.size W1 W → Calls Tryd.prog 18 #[ccv c] W fun e w' => e = .returned (.int .i64 x3) ∧ Below W.heap.size W w') (c19 : ∀ W, Below W1.heap.size W1 W → Calls Tryd.prog 19 #[] W fun e w' => e = .returned (.bool true) ∧ Below W.heap.size W w') 
    (hfin : ∀ (T : Nat → Value) w, T 39 = .bool true → Below W1.heap.size W1 w ∧ Box w p 26 (ccL c) ∧ Box w ga 26 (ccL ca) ∧ Box w gb 26 (ccL cb) → Q .normal ((((((((((((((((((((((((((((((((((((((((a0.put (some 21) (T 0)).put (some 22) (T 1)).put (some 23) (T 2)).put (some 24) (T 3)).put (some 25) (T 4)).put (some 26) (T 5)).put (some 27) (T 6)).put (some 28) (T 7)).put (some 29) (T 8)).put (some 30) (T 9)).put (some 31) (T 10)).put (some 32) (T 11)).put (some 33) (T 12)).put (some 34) (T 13)).put (some 35) (T 14)).put (some 36) (T 15)).put (some 37) (T 16)).put (some 38) (T 17)).put (some 39) (T 18)).put (some 40) (T 19)).put (some 41) (T 20)).put (some 42) (T 21)).put (some 43) (T 22)).put (some 44) (T 23)).put (some 45) (T 24)).put (some 46) (T 25)).put (some 47) (T 26)).put (some 48) (T 27)).put (some 49) (T 28)).put (some 50) (T 29)).put (some 51) (T 30)).put (some 52) (T 31)).put (some 53) (T 32)).put (some 54) (T 33)).put (some 55) (T 34)).put (some 56) (T 35)).put (some 57) (T 36)).put (some 58) (T 37)).put (some 59) (T 38)).put (some 4) (T 39)) w) :
    (Code.region 3 (mv3 ps) true).wp Tryd.prog Q a0 W0 := by
  refine wp_region_dets (by kernel_rfl) 40 rfl mv3D ?_ (by decide) (mv3T c ca cb p ga gb er x0 x1 x2 x3) (fun D w => Below W1.heap.size W1 w ∧ Box w p 26 (ccL c) ∧ Box w ga 26 (ccL ca) ∧ Box w gb 26 (ccL cb)) (fun D _ => (by subst hW; exact ⟨(Below.refl _ _).drew, hb.drew, hb1.drew, hb2.drew⟩)) ?_ (by rfl) (fun w D _ hSw => hfin (mv3T c ca cb p ga gb er x0 x1 x2 x3) w rfl hSw)
  · intro jq t hj ht
    have : ∀ j, j < 40 → (mv3D j).all (· < 60) = true := by decide
    have := this jq hj
    rw [ht] at this
    rw [sz]
    simpa using this
  · intro iq o ho D a w hSw hDi hcl hs hel K hK
    have hin : iq < 40 := (Array.getElem?_eq_some_iff.1 ho).1
    match iq, hin, ho with
    | 0, _, ho =>
      obtain rfl := Option.some.inj (ho.symm.trans (mv3_0 ps))
      have u5 : a.eval (.tmp 5) = .pointer (some ⟨ga, 0, none⟩) := (hel 5 (by decide)).trans e5
      exact op_valW (mv3_0 ps) rfl (v := ccv ca) (run_loadC isC26 rfl u5 hSw.2.2.1) (hK w (fun D' _ _ => hSw))
    | 1, _, ho =>
      obtain rfl := Option.some.inj (ho.symm.trans (mv3_1 ps))
      have u7 : a.eval (.tmp 7) = .pointer (some ⟨gb, 0, none⟩) := (hel 7 (by decide)).trans e7
      exact op_valW (mv3_1 ps) rfl (v := ccv cb) (run_loadC isC26 rfl u7 hSw.2.2.2) (hK w (fun D' _ _ => hSw))
    | 2, _, ho =>
      obtain rfl := Option.some.inj (ho.symm.trans (mv3_2 ps))
      have s0 : a.eval (.tmp 21) = ccv ca := hs 0 21 (by rfl) rfl
      have s1 : a.eval (.tmp 22) = ccv cb := hs 1 22 (by rfl) rfl
      exact op_enterW (mv3_2 ps) rfl (f := 10) (args := #[ccv ca, ccv cb]) (by rw [run_call rfl enter10]; simp only [List.map_toArray, List.map_cons, List.map_nil, s0, s1]; try rfl) ((c10 w hSw.1).mono (fun e w' hh => ⟨_, hh.1, hK w' (fun D' _ _ => ⟨Below.on hSw.1 hh.2, hSw.2.1.later hh.2, hSw.2.2.1.later hh.2, hSw.2.2.2.later hh.2⟩)⟩))
    | 3, _, ho =>
      obtain rfl := Option.some.inj (ho.symm.trans (mv3_3 ps))
      have s2 : a.eval (.tmp 23) = .bool true := hs 2 23 (by rfl) rfl
      exact op_valW (mv3_3 ps) rfl (v := .bool true) (by unfold mv3O3 execOp; simp only [s2]; first | (go_simp; done) | (go_simp; with_reducible rfl)) (hK w (fun D' _ _ => hSw))
    | 4, _, ho =>
      obtain rfl := Option.some.inj (ho.symm.trans (mv3_4 ps))
      have s3 : a.eval (.tmp 24) = .bool true := hs 3 24 (by rfl) rfl
      have u6 : a.eval (.tmp 6) = .int .i64 er := (hel 6 (by decide)).trans e6
      exact op_valW (mv3_4 ps) (by rw [wanted_of rfl (mv3_3 ps) rfl s3]; rfl) (v := .int .i64 er) (by unfold mv3O4 execOp; simp only [u6]; first | (go_simp; done) | (go_simp; with_reducible rfl)) (hK w (fun D' _ _ => hSw))
    | 5, _, ho =>
      obtain rfl := Option.some.inj (ho.symm.trans (mv3_5 ps))
      have s3 : a.eval (.tmp 24) = .bool true := hs 3 24 (by rfl) rfl
      have u8 : a.eval (.tmp 8) = .int .i64 er := (hel 8 (by decide)).trans e8
      exact op_valW (mv3_5 ps) (by rw [wanted_of rfl (mv3_3 ps) rfl s3]; rfl) (v := .int .i64 er) (by unfold mv3O5 execOp; simp only [u8]; first | (go_simp; done) | (go_simp; with_reducible rfl)) (hK w (fun D' _ _ => hSw))
    | 6, _, ho =>
      obtain rfl := Option.some.inj (ho.symm.trans (mv3_6 ps))
      have s4 : a.eval (.tmp 25) = .int .i64 er := hs 4 25 (by rfl) rfl
      have s5 : a.eval (.tmp 26) = .int .i64 er := hs 5 26 (by rfl) rfl
      have s3 : a.eval (.tmp 24) = .bool true := hs 3 24 (by rfl) rfl
      exact op_valW (mv3_6 ps) (by rw [wanted_of rfl (mv3_3 ps) rfl s3]; rfl) (v := .bool true) (by unfold mv3O6 execOp; simp only [s4, s5]; first | (go_simp; done) | (go_simp; with_reducible rfl)) (hK w (fun D' _ _ => hSw))
    | 7, _, ho =>
      obtain rfl := Option.some.inj (ho.symm.trans (mv3_7 ps))
      have s3 : a.eval (.tmp 24) = .bool true := hs 3 24 (by rfl) rfl
      have s6 : a.eval (.tmp 27) = .bool true := hs 6 27 (by rfl) rfl
      exact op_valW (mv3_7 ps) rfl (v := .bool true) (by unfold mv3O7 execOp; simp only [s3, s6]; first | (go_simp; done) | (go_simp; with_reducible rfl)) (hK w (fun D' _ _ => hSw))
    | 8, _, ho =>
      obtain rfl := Option.some.inj (ho.symm.trans (mv3_8 ps))
      have s7 : a.eval (.tmp 28) = .bool true := hs 7 28 (by rfl) rfl
      exact op_valW (mv3_8 ps) rfl (v := .bool true) (by unfold mv3O8 execOp; simp only [s7]; first | (go_simp; done) | (go_simp; with_reducible rfl)) (hK w (fun D' _ _ => hSw))
    | 9, _, ho =>
      obtain rfl := Option.some.inj (ho.symm.trans (mv3_9 ps))
      have s8 : a.eval (.tmp 29) = .bool true := hs 8 29 (by rfl) rfl
      have u2 : a.eval (.tmp 2) = .pointer (some ⟨p, 0, none⟩) := (hel 2 (by decide)).trans e2
      exact op_valW (mv3_9 ps) (by rw [wanted_of rfl (mv3_8 ps) rfl s8]; rfl) (v := ccv c) (run_loadC isC26 rfl u2 hSw.2.1) (hK w (fun D' _ _ => hSw))
    | 10, _, ho =>
      obtain rfl := Option.some.inj (ho.symm.trans (mv3_10 ps))
      have s9 : a.eval (.tmp 30) = ccv c := hs 9 30 (by rfl) rfl
      have s8 : a.eval (.tmp 29) = .bool true := hs 8 29 (by rfl) rfl
      exact op_enterW (mv3_10 ps) (by rw [wanted_of rfl (mv3_8 ps) rfl s8]; rfl) (f := 11) (args := #[ccv c]) (by rw [run_call rfl enter11]; simp only [List.map_toArray, List.map_cons, List.map_nil, s9]; try rfl) ((c11 w hSw.1).mono (fun e w' hh => ⟨_, hh.1, hK w' (fun D' _ _ => ⟨Below.on hSw.1 hh.2, hSw.2.1.later hh.2, hSw.2.2.1.later hh.2, hSw.2.2.2.later hh.2⟩)⟩))
    | 11, _, ho =>
      obtain rfl := Option.some.inj (ho.symm.trans (mv3_11 ps))
      have s8 : a.eval (.tmp 29) = .bool true := hs 8 29 (by rfl) rfl
      have u2 : a.eval (.tmp 2) = .pointer (some ⟨p, 0, none⟩) := (hel 2 (by decide)).trans e2
      exact op_valW (mv3_11 ps) (by rw [wanted_of rfl (mv3_8 ps) rfl s8]; rfl) (v := ccv c) (run_loadC isC26 rfl u2 hSw.2.1) (hK w (fun D' _ _ => hSw))
    | 12, _, ho =>
      obtain rfl := Option.some.inj (ho.symm.trans (mv3_12 ps))
      have s11 : a.eval (.tmp 32) = ccv c := hs 11 32 (by rfl) rfl
      have s8 : a.eval (.tmp 29) = .bool true := hs 8 29 (by rfl) rfl
      exact op_enterW (mv3_12 ps) (by rw [wanted_of rfl (mv3_8 ps) rfl s8]; rfl) (f := 12) (args := #[ccv c]) (by rw [run_call rfl enter12]; simp only [List.map_toArray, List.map_cons, List.map_nil, s11]; try rfl) ((c12 w hSw.1).mono (fun e w' hh => ⟨_, hh.1, hK w' (fun D' _ _ => ⟨Below.on hSw.1 hh.2, hSw.2.1.later hh.2, hSw.2.2.1.later hh.2, hSw.2.2.2.later hh.2⟩)⟩))
    | 13, _, ho =>
      obtain rfl := Option.some.inj (ho.symm.trans (mv3_13 ps))
      have s10 : a.eval (.tmp 31) = .int .i64 x0 := hs 10 31 (by rfl) rfl
      have s12 : a.eval (.tmp 33) = .int .i64 x0 := hs 12 33 (by rfl) rfl
      have s8 : a.eval (.tmp 29) = .bool true := hs 8 29 (by rfl) rfl
      exact op_valW (mv3_13 ps) (by rw [wanted_of rfl (mv3_8 ps) rfl s8]; rfl) (v := .bool true) (by unfold mv3O13 execOp; simp only [s10, s12]; first | (go_simp; done) | (go_simp; with_reducible rfl)) (hK w (fun D' _ _ => hSw))
    | 14, _, ho =>
      obtain rfl := Option.some.inj (ho.symm.trans (mv3_14 ps))
      have s8 : a.eval (.tmp 29) = .bool true := hs 8 29 (by rfl) rfl
      have s13 : a.eval (.tmp 34) = .bool true := hs 13 34 (by rfl) rfl
      exact op_valW (mv3_14 ps) rfl (v := .bool true) (by unfold mv3O14 execOp; simp only [s8, s13]; first | (go_simp; done) | (go_simp; with_reducible rfl)) (hK w (fun D' _ _ => hSw))
    | 15, _, ho =>
      obtain rfl := Option.some.inj (ho.symm.trans (mv3_15 ps))
      have s14 : a.eval (.tmp 35) = .bool true := hs 14 35 (by rfl) rfl
      exact op_valW (mv3_15 ps) rfl (v := .bool true) (by unfold mv3O15 execOp; simp only [s14]; first | (go_simp; done) | (go_simp; with_reducible rfl)) (hK w (fun D' _ _ => hSw))
    | 16, _, ho =>
      obtain rfl := Option.some.inj (ho.symm.trans (mv3_16 ps))
      have s15 : a.eval (.tmp 36) = .bool true := hs 15 36 (by rfl) rfl
      have u2 : a.eval (.tmp 2) = .pointer (some ⟨p, 0, none⟩) := (hel 2 (by decide)).trans e2
      exact op_valW (mv3_16 ps) (by rw [wanted_of rfl (mv3_15 ps) rfl s15]; rfl) (v := ccv c) (run_loadC isC26 rfl u2 hSw.2.1) (hK w (fun D' _ _ => hSw))
    | 17, _, ho =>
      obtain rfl := Option.some.inj (ho.symm.trans (mv3_17 ps))
      have s16 : a.eval (.tmp 37) = ccv c := hs 16 37 (by rfl) rfl
      have s15 : a.eval (.tmp 36) = .bool true := hs 15 36 (by rfl) rfl
      exact op_enterW (mv3_17 ps) (by rw [wanted_of rfl (mv3_15 ps) rfl s15]; rfl) (f := 13) (args := #[ccv c]) (by rw [run_call rfl enter13]; simp only [List.map_toArray, List.map_cons, List.map_nil, s16]; try rfl) ((c13 w hSw.1).mono (fun e w' hh => ⟨_, hh.1, hK w' (fun D' _ _ => ⟨Below.on hSw.1 hh.2, hSw.2.1.later hh.2, hSw.2.2.1.later hh.2, hSw.2.2.2.later hh.2⟩)⟩))
    | 18, _, ho =>
      obtain rfl := Option.some.inj (ho.symm.trans (mv3_18 ps))
      have s15 : a.eval (.tmp 36) = .bool true := hs 15 36 (by rfl) rfl
      have u2 : a.eval (.tmp 2) = .pointer (some ⟨p, 0, none⟩) := (hel 2 (by decide)).trans e2
      exact op_valW (mv3_18 ps) (by rw [wanted_of rfl (mv3_15 ps) rfl s15]; rfl) (v := ccv c) (run_loadC isC26 rfl u2 hSw.2.1) (hK w (fun D' _ _ => hSw))
    | 19, _, ho =>
      obtain rfl := Option.some.inj (ho.symm.trans (mv3_19 ps))
      have s18 : a.eval (.tmp 39) = ccv c := hs 18 39 (by rfl) rfl
      have s15 : a.eval (.tmp 36) = .bool true := hs 15 36 (by rfl) rfl
      exact op_enterW (mv3_19 ps) (by rw [wanted_of rfl (mv3_15 ps) rfl s15]; rfl) (f := 14) (args := #[ccv c]) (by rw [run_call rfl enter14]; simp only [List.map_toArray, List.map_cons, List.map_nil, s18]; try rfl) ((c14 w hSw.1).mono (fun e w' hh => ⟨_, hh.1, hK w' (fun D' _ _ => ⟨Below.on hSw.1 hh.2, hSw.2.1.later hh.2, hSw.2.2.1.later hh.2, hSw.2.2.2.later hh.2⟩)⟩))
    | 20, _, ho =>
      obtain rfl := Option.some.inj (ho.symm.trans (mv3_20 ps))
      have s17 : a.eval (.tmp 38) = .int .i64 x1 := hs 17 38 (by rfl) rfl
      have s19 : a.eval (.tmp 40) = .int .i64 x1 := hs 19 40 (by rfl) rfl
      have s15 : a.eval (.tmp 36) = .bool true := hs 15 36 (by rfl) rfl
      exact op_valW (mv3_20 ps) (by rw [wanted_of rfl (mv3_15 ps) rfl s15]; rfl) (v := .bool true) (by unfold mv3O20 execOp; simp only [s17, s19]; first | (go_simp; done) | (go_simp; with_reducible rfl)) (hK w (fun D' _ _ => hSw))
    | 21, _, ho =>
      obtain rfl := Option.some.inj (ho.symm.trans (mv3_21 ps))
      have s15 : a.eval (.tmp 36) = .bool true := hs 15 36 (by rfl) rfl
      have s20 : a.eval (.tmp 41) = .bool true := hs 20 41 (by rfl) rfl
      exact op_valW (mv3_21 ps) rfl (v := .bool true) (by unfold mv3O21 execOp; simp only [s15, s20]; first | (go_simp; done) | (go_simp; with_reducible rfl)) (hK w (fun D' _ _ => hSw))
    | 22, _, ho =>
      obtain rfl := Option.some.inj (ho.symm.trans (mv3_22 ps))
      have s21 : a.eval (.tmp 42) = .bool true := hs 21 42 (by rfl) rfl
      exact op_valW (mv3_22 ps) rfl (v := .bool true) (by unfold mv3O22 execOp; simp only [s21]; first | (go_simp; done) | (go_simp; with_reducible rfl)) (hK w (fun D' _ _ => hSw))
    | 23, _, ho =>
      obtain rfl := Option.some.inj (ho.symm.trans (mv3_23 ps))
      have s22 : a.eval (.tmp 43) = .bool true := hs 22 43 (by rfl) rfl
      have u2 : a.eval (.tmp 2) = .pointer (some ⟨p, 0, none⟩) := (hel 2 (by decide)).trans e2
      exact op_valW (mv3_23 ps) (by rw [wanted_of rfl (mv3_22 ps) rfl s22]; rfl) (v := ccv c) (run_loadC isC26 rfl u2 hSw.2.1) (hK w (fun D' _ _ => hSw))
    | 24, _, ho =>
      obtain rfl := Option.some.inj (ho.symm.trans (mv3_24 ps))
      have s23 : a.eval (.tmp 44) = ccv c := hs 23 44 (by rfl) rfl
      have s22 : a.eval (.tmp 43) = .bool true := hs 22 43 (by rfl) rfl
      exact op_enterW (mv3_24 ps) (by rw [wanted_of rfl (mv3_22 ps) rfl s22]; rfl) (f := 15) (args := #[ccv c]) (by rw [run_call rfl enter15]; simp only [List.map_toArray, List.map_cons, List.map_nil, s23]; try rfl) ((c15 w hSw.1).mono (fun e w' hh => ⟨_, hh.1, hK w' (fun D' _ _ => ⟨Below.on hSw.1 hh.2, hSw.2.1.later hh.2, hSw.2.2.1.later hh.2, hSw.2.2.2.later hh.2⟩)⟩))
    | 25, _, ho =>
      obtain rfl := Option.some.inj (ho.symm.trans (mv3_25 ps))
      have s22 : a.eval (.tmp 43) = .bool true := hs 22 43 (by rfl) rfl
      have u2 : a.eval (.tmp 2) = .pointer (some ⟨p, 0, none⟩) := (hel 2 (by decide)).trans e2
      exact op_valW (mv3_25 ps) (by rw [wanted_of rfl (mv3_22 ps) rfl s22]; rfl) (v := ccv c) (run_loadC isC26 rfl u2 hSw.2.1) (hK w (fun D' _ _ => hSw))
    | 26, _, ho =>
      obtain rfl := Option.some.inj (ho.symm.trans (mv3_26 ps))
      have s25 : a.eval (.tmp 46) = ccv c := hs 25 46 (by rfl) rfl
      have s22 : a.eval (.tmp 43) = .bool true := hs 22 43 (by rfl) rfl
      exact op_enterW (mv3_26 ps) (by rw [wanted_of rfl (mv3_22 ps) rfl s22]; rfl) (f := 16) (args := #[ccv c]) (by rw [run_call rfl enter16]; simp only [List.map_toArray, List.map_cons, List.map_nil, s25]; try rfl) ((c16 w hSw.1).mono (fun e w' hh => ⟨_, hh.1, hK w' (fun D' _ _ => ⟨Below.on hSw.1 hh.2, hSw.2.1.later hh.2, hSw.2.2.1.later hh.2, hSw.2.2.2.later hh.2⟩)⟩))
    | 27, _, ho =>
      obtain rfl := Option.some.inj (ho.symm.trans (mv3_27 ps))
      have s24 : a.eval (.tmp 45) = .int .i64 x2 := hs 24 45 (by rfl) rfl
      have s26 : a.eval (.tmp 47) = .int .i64 x2 := hs 26 47 (by rfl) rfl
      have s22 : a.eval (.tmp 43) = .bool true := hs 22 43 (by rfl) rfl
      exact op_valW (mv3_27 ps) (by rw [wanted_of rfl (mv3_22 ps) rfl s22]; rfl) (v := .bool true) (by unfold mv3O27 execOp; simp only [s24, s26]; first | (go_simp; done) | (go_simp; with_reducible rfl)) (hK w (fun D' _ _ => hSw))
    | 28, _, ho =>
      obtain rfl := Option.some.inj (ho.symm.trans (mv3_28 ps))
      have s22 : a.eval (.tmp 43) = .bool true := hs 22 43 (by rfl) rfl
      have s27 : a.eval (.tmp 48) = .bool true := hs 27 48 (by rfl) rfl
      exact op_valW (mv3_28 ps) rfl (v := .bool true) (by unfold mv3O28 execOp; simp only [s22, s27]; first | (go_simp; done) | (go_simp; with_reducible rfl)) (hK w (fun D' _ _ => hSw))
    | 29, _, ho =>
      obtain rfl := Option.some.inj (ho.symm.trans (mv3_29 ps))
      have s28 : a.eval (.tmp 49) = .bool true := hs 28 49 (by rfl) rfl
      exact op_valW (mv3_29 ps) rfl (v := .bool true) (by unfold mv3O29 execOp; simp only [s28]; first | (go_simp; done) | (go_simp; with_reducible rfl)) (hK w (fun D' _ _ => hSw))
    | 30, _, ho =>
      obtain rfl := Option.some.inj (ho.symm.trans (mv3_30 ps))
      have s29 : a.eval (.tmp 50) = .bool true := hs 29 50 (by rfl) rfl
      have u2 : a.eval (.tmp 2) = .pointer (some ⟨p, 0, none⟩) := (hel 2 (by decide)).trans e2
      exact op_valW (mv3_30 ps) (by rw [wanted_of rfl (mv3_29 ps) rfl s29]; rfl) (v := ccv c) (run_loadC isC26 rfl u2 hSw.2.1) (hK w (fun D' _ _ => hSw))
    | 31, _, ho =>
      obtain rfl := Option.some.inj (ho.symm.trans (mv3_31 ps))
      have s30 : a.eval (.tmp 51) = ccv c := hs 30 51 (by rfl) rfl
      have s29 : a.eval (.tmp 50) = .bool true := hs 29 50 (by rfl) rfl
      exact op_enterW (mv3_31 ps) (by rw [wanted_of rfl (mv3_29 ps) rfl s29]; rfl) (f := 17) (args := #[ccv c]) (by rw [run_call rfl enter17]; simp only [List.map_toArray, List.map_cons, List.map_nil, s30]; try rfl) ((c17 w hSw.1).mono (fun e w' hh => ⟨_, hh.1, hK w' (fun D' _ _ => ⟨Below.on hSw.1 hh.2, hSw.2.1.later hh.2, hSw.2.2.1.later hh.2, hSw.2.2.2.later hh.2⟩)⟩))
    | 32, _, ho =>
      obtain rfl := Option.some.inj (ho.symm.trans (mv3_32 ps))
      have s29 : a.eval (.tmp 50) = .bool true := hs 29 50 (by rfl) rfl
      have u2 : a.eval (.tmp 2) = .pointer (some ⟨p, 0, none⟩) := (hel 2 (by decide)).trans e2
      exact op_valW (mv3_32 ps) (by rw [wanted_of rfl (mv3_29 ps) rfl s29]; rfl) (v := ccv c) (run_loadC isC26 rfl u2 hSw.2.1) (hK w (fun D' _ _ => hSw))
    | 33, _, ho =>
      obtain rfl := Option.some.inj (ho.symm.trans (mv3_33 ps))
      have s32 : a.eval (.tmp 53) = ccv c := hs 32 53 (by rfl) rfl
      have s29 : a.eval (.tmp 50) = .bool true := hs 29 50 (by rfl) rfl
      exact op_enterW (mv3_33 ps) (by rw [wanted_of rfl (mv3_29 ps) rfl s29]; rfl) (f := 18) (args := #[ccv c]) (by rw [run_call rfl enter18]; simp only [List.map_toArray, List.map_cons, List.map_nil, s32]; try rfl) ((c18 w hSw.1).mono (fun e w' hh => ⟨_, hh.1, hK w' (fun D' _ _ => ⟨Below.on hSw.1 hh.2, hSw.2.1.later hh.2, hSw.2.2.1.later hh.2, hSw.2.2.2.later hh.2⟩)⟩))
    | 34, _, ho =>
      obtain rfl := Option.some.inj (ho.symm.trans (mv3_34 ps))
      have s31 : a.eval (.tmp 52) = .int .i64 x3 := hs 31 52 (by rfl) rfl
      have s33 : a.eval (.tmp 54) = .int .i64 x3 := hs 33 54 (by rfl) rfl
      have s29 : a.eval (.tmp 50) = .bool true := hs 29 50 (by rfl) rfl
      exact op_valW (mv3_34 ps) (by rw [wanted_of rfl (mv3_29 ps) rfl s29]; rfl) (v := .bool true) (by unfold mv3O34 execOp; simp only [s31, s33]; first | (go_simp; done) | (go_simp; with_reducible rfl)) (hK w (fun D' _ _ => hSw))
    | 35, _, ho =>
      obtain rfl := Option.some.inj (ho.symm.trans (mv3_35 ps))
      have s29 : a.eval (.tmp 50) = .bool true := hs 29 50 (by rfl) rfl
      have s34 : a.eval (.tmp 55) = .bool true := hs 34 55 (by rfl) rfl
      exact op_valW (mv3_35 ps) rfl (v := .bool true) (by unfold mv3O35 execOp; simp only [s29, s34]; first | (go_simp; done) | (go_simp; with_reducible rfl)) (hK w (fun D' _ _ => hSw))
    | 36, _, ho =>
      obtain rfl := Option.some.inj (ho.symm.trans (mv3_36 ps))
      have s35 : a.eval (.tmp 56) = .bool true := hs 35 56 (by rfl) rfl
      exact op_valW (mv3_36 ps) rfl (v := .bool true) (by unfold mv3O36 execOp; simp only [s35]; first | (go_simp; done) | (go_simp; with_reducible rfl)) (hK w (fun D' _ _ => hSw))
    | 37, _, ho =>
      obtain rfl := Option.some.inj (ho.symm.trans (mv3_37 ps))
      have s36 : a.eval (.tmp 57) = .bool true := hs 36 57 (by rfl) rfl
      exact op_enterW (mv3_37 ps) (by rw [wanted_of rfl (mv3_36 ps) rfl s36]; rfl) (f := 19) (args := #[]) (by rw [run_call rfl enter19]; simp only [List.map_toArray, List.map_nil]; try rfl) ((c19 w hSw.1).mono (fun e w' hh => ⟨_, hh.1, hK w' (fun D' _ _ => ⟨Below.on hSw.1 hh.2, hSw.2.1.later hh.2, hSw.2.2.1.later hh.2, hSw.2.2.2.later hh.2⟩)⟩))
    | 38, _, ho =>
      obtain rfl := Option.some.inj (ho.symm.trans (mv3_38 ps))
      have s36 : a.eval (.tmp 57) = .bool true := hs 36 57 (by rfl) rfl
      have s37 : a.eval (.tmp 58) = .bool true := hs 37 58 (by rfl) rfl
      exact op_valW (mv3_38 ps) rfl (v := .bool true) (by unfold mv3O38 execOp; simp only [s36, s37]; first | (go_simp; done) | (go_simp; with_reducible rfl)) (hK w (fun D' _ _ => hSw))
    | 39, _, ho =>
      obtain rfl := Option.some.inj (ho.symm.trans (mv3_39 ps))
      have s38 : a.eval (.tmp 59) = .bool true := hs 38 59 (by rfl) rfl
      exact op_valW (mv3_39 ps) rfl (v := .bool true) (by unfold mv3O39 execOp; simp only [s38]; first | (go_simp; done) | (go_simp; with_reducible rfl)) (hK w (fun D' _ _ => hSw))
    | iq + 40, hin, _ => exact absurd hin (by omega)

set_option maxRecDepth 100000 in
set_option maxHeartbeats 4000000 in
theorem mov_y (w : World) (c : Cc) (s : Sm) (D : Cc) (fs : List Tm) (L : Nat) (hL : fs.length = L) (x0 x1 x2 x3 : Int) (hG : Hid (G8 w)) (c1 : ∀ W, Below w.heap.size w W → Calls Tryd.prog 8 #[ccv c, agv (smL s)] W fun e w' => ∃ va vk, e = .returned (.tuple #[ccv (rowed D va L vk), .int .i64 0]) ∧ Fil.RowT w' 0 va L vk fs ∧ Below W.heap.size W w') (c2 : ∀ W, Below w.heap.size w W → Calls Tryd.prog 9 #[ccv c, agv (smL s)] W fun e w' => ∃ va vk, e = .returned (.tuple #[ccv (rowed D va L vk), .int .i64 0]) ∧ Fil.RowT w' 0 va L vk fs ∧ Below W.heap.size W w') (c11 : ∀ W, Below w.heap.size w W → Calls Tryd.prog 11 #[ccv c] W fun e w' => e = .returned (.int .i64 x0) ∧ Below W.heap.size W w') (c12 : ∀ W, Below w.heap.size w W → Calls Tryd.prog 12 #[ccv c] W fun e w' => e = .returned (.int .i64 x0) ∧ Below W.heap.size W w') (c13 : ∀ W, Below w.heap.size w W → Calls Tryd.prog 13 #[ccv c] W fun e w' => e = .returned (.int .i64 x1) ∧ Below W.heap.size W w') (c14 : ∀ W, Below w.heap.size w W → Calls Tryd.prog 14 #[ccv c] W fun e w' => e = .returned (.int .i64 x1) ∧ Below W.heap.size W w') (c15 : ∀ W, Below w.heap.size w W → Calls Tryd.prog 15 #[ccv c] W fun e w' => e = .returned (.int .i64 x2) ∧ Below W.heap.size W w') (c16 : ∀ W, Below w.heap.size w W → Calls Tryd.prog 16 #[ccv c] W fun e w' => e = .returned (.int .i64 x2) ∧ Below W.heap.size W w') (c17 : ∀ W, Below w.heap.size w W → Calls Tryd.prog 17 #[ccv c] W fun e w' => e = .returned (.int .i64 x3) ∧ Below W.heap.size W w') (c18 : ∀ W, Below w.heap.size w W → Calls Tryd.prog 18 #[ccv c] W fun e w' => e = .returned (.int .i64 x3) ∧ Below W.heap.size W w')  : Calls Tryd.prog 3 #[ccv c, agv (smL s)] w fun e w' => e = .returned (.bool true) ∧ Below w.heap.size w w' := by
  have kh : Hid (∀ W, G8 W → Calls Tryd.prog 19 #[] W fun e w' => e = .returned (.bool true) ∧ Below W.heap.size W w') := heads_any
  go_enter Tryd.func3, Tryd.ntmps3
  go_wp2_with (first | (refine wpC_box rfl rfl rfl ?_))
  intro X1 p HN
  have HX1 : Hid (Below w.heap.size w X1 ∧ Box X1 p 26 (ccL c) ∧ w.heap.size ≤ p ∧ True) := by
    have hb := Below.refl w.heap.size w
    obtain ⟨hg, hb2, bn⟩ := HN.out
    have hz := hb.size
    exact ⟨Below.on hb hb2, bn, by omega, trivial⟩
  clear HN 
  go_wp2_with (first | (refine wpS_box rfl rfl rfl ?_))
  intro X2 q HN
  have HX2 : Hid (Below w.heap.size w X2 ∧ Box X2 p 26 (ccL c) ∧ Box X2 q 28 (smL s) ∧ w.heap.size ≤ p ∧ p < q ∧ True) := by
    obtain ⟨hb, b0, l0, _⟩ := HX1.out
    obtain ⟨hg, hb2, bn⟩ := HN.out
    have z0 := b0.lt
    exact ⟨Below.on hb hb2, b0.later hb2, bn, l0, by omega, trivial⟩
  clear HN HX1
  go_wp2_with (first | (refine wpC_load rfl isC26 rfl rfl (HX2.out.2.1) ?_) | (refine wpS_load rfl rfl rfl (HX2.out.2.2.1) isS28 ?_) | fail)
  refine (c1 _ (HX2.out.1)).mono ?_
  rintro e w3 ⟨va, vj, rfl, hR, hB⟩
  have HX3 : Hid (Below w.heap.size w w3 ∧ Box w3 p 26 (ccL c) ∧ Box w3 q 28 (smL s) ∧ w.heap.size ≤ p ∧ p < q ∧ Fil.RowT w3 0 va L vj fs ∧ True) := by
    obtain ⟨hb, b0, b1, l0, l1, _⟩ := HX2.out
    exact ⟨Below.on hb hB, b0.later hB, b1.later hB, l0, l1, hR, trivial⟩
  clear hB hR HX2
  go_wp2_with (first | (refine wpC_alloc rfl rfl zero26 ?_))
  intro X4 ga HN
  have HX4 : Hid (Below w.heap.size w X4 ∧ Box X4 p 26 (ccL c) ∧ Box X4 q 28 (smL s) ∧ Box X4 ga 26 (ccL zC) ∧ w.heap.size ≤ p ∧ p < q ∧ q < ga ∧ Fil.RowT X4 0 va L vj fs ∧ True) := by
    obtain ⟨hb, b0, b1, l0, l1, r0, _⟩ := HX3.out
    obtain ⟨hg, hb2, bn⟩ := HN.out
    have z0 := b0.lt
    have z1 := b1.lt
    exact ⟨Below.on hb hb2, b0.later hb2, b1.later hb2, bn, l0, l1, by omega, r0.later hb2, trivial⟩
  clear HN HX3
  go_wp2_with (first | (refine wpC_store rfl isC26 rfl rfl rfl rfl (HX4.out.2.2.2.1) rfl ?_))
  intro X5 HN
  have HX5 : Hid (Below w.heap.size w X5 ∧ Box X5 p 26 (ccL c) ∧ Box X5 q 28 (smL s) ∧ Box X5 ga 26 (ccL (rowed D va L vj)) ∧ w.heap.size ≤ p ∧ p < q ∧ q < ga ∧ Fil.RowT X5 0 va L vj fs ∧ True) := by
    obtain ⟨hb, b0, b1, b2, l0, l1, l2, r0, _⟩ := HX4.out
    obtain ⟨st, bn⟩ := HN.out
    exact ⟨st.below _ _ (by omega) hb, b0.sto st (by omega), b1.sto st (by omega), bn, l0, l1, l2, r0.sto b2 (by decide) st, trivial⟩
  clear HN HX4
  clear c1
  go_wp2_with (first | (refine wpC_load rfl isC26 rfl rfl (HX5.out.2.1) ?_) | (refine wpS_load rfl rfl rfl (HX5.out.2.2.1) isS28 ?_) | fail)
  refine (c2 _ (HX5.out.1)).mono ?_
  rintro e w6 ⟨vb, vk, rfl, hR, hB⟩
  have HX6 : Hid (Below w.heap.size w w6 ∧ Box w6 p 26 (ccL c) ∧ Box w6 q 28 (smL s) ∧ Box w6 ga 26 (ccL (rowed D va L vj)) ∧ w.heap.size ≤ p ∧ p < q ∧ q < ga ∧ Fil.RowT w6 0 va L vj fs ∧ Fil.RowT w6 0 vb L vk fs ∧ True) := by
    obtain ⟨hb, b0, b1, b2, l0, l1, l2, r0, _⟩ := HX5.out
    exact ⟨Below.on hb hB, b0.later hB, b1.later hB, b2.later hB, l0, l1, l2, r0.later hB, hR, trivial⟩
  clear hB hR HX5
  go_wp2_with (first | (refine wpC_alloc rfl rfl zero26 ?_))
  intro X7 gb HN
  have HX7 : Hid (Below w.heap.size w X7 ∧ Box X7 p 26 (ccL c) ∧ Box X7 q 28 (smL s) ∧ Box X7 ga 26 (ccL (rowed D va L vj)) ∧ Box X7 gb 26 (ccL zC) ∧ w.heap.size ≤ p ∧ p < q ∧ q < ga ∧ ga < gb ∧ Fil.RowT X7 0 va L vj fs ∧ Fil.RowT X7 0 vb L vk fs ∧ True) := by
    obtain ⟨hb, b0, b1, b2, l0, l1, l2, r0, r1, _⟩ := HX6.out
    obtain ⟨hg, hb2, bn⟩ := HN.out
    have z0 := b0.lt
    have z1 := b1.lt
    have z2 := b2.lt
    exact ⟨Below.on hb hb2, b0.later hb2, b1.later hb2, b2.later hb2, bn, l0, l1, l2, by omega, r0.later hb2, r1.later hb2, trivial⟩
  clear HN HX6
  go_wp2_with (first | (refine wpC_store rfl isC26 rfl rfl rfl rfl (HX7.out.2.2.2.2.1) rfl ?_))
  intro X8 HN
  have HX8 : Hid (Below w.heap.size w X8 ∧ Box X8 p 26 (ccL c) ∧ Box X8 q 28 (smL s) ∧ Box X8 ga 26 (ccL (rowed D va L vj)) ∧ Box X8 gb 26 (ccL (rowed D vb L vk)) ∧ w.heap.size ≤ p ∧ p < q ∧ q < ga ∧ ga < gb ∧ Fil.RowT X8 0 va L vj fs ∧ Fil.RowT X8 0 vb L vk fs ∧ True) := by
    obtain ⟨hb, b0, b1, b2, b3, l0, l1, l2, l3, r0, r1, _⟩ := HX7.out
    obtain ⟨st, bn⟩ := HN.out
    exact ⟨st.below _ _ (by omega) hb, b0.sto st (by omega), b1.sto st (by omega), b2.sto st (by omega), bn, l0, l1, l2, l3, r0.sto b3 (by decide) st, r1.sto b3 (by decide) st, trivial⟩
  clear HN HX7
  clear c2
  go_upto_region 3 with fail
  refine mv3_reg (by rfl) c (rowed D va L vj) (rowed D vb L vk) p ga gb 0 x0 x1 x2 x3 rfl rfl rfl rfl rfl (HX8.out.2.1) (HX8.out.2.2.2.1) (HX8.out.2.2.2.2.1) rfl (fun U hU => same8_is D va vb vj vk L fs hL U (Fil.RowT.later (HX8.out.2.2.2.2.2.2.2.2.2.1) hU).tims (Fil.RowT.later (HX8.out.2.2.2.2.2.2.2.2.2.2.1) hU).tims) (fun U hU => c11 U (Below.on (HX8.out.1) hU)) (fun U hU => c12 U (Below.on (HX8.out.1) hU)) (fun U hU => c13 U (Below.on (HX8.out.1) hU)) (fun U hU => c14 U (Below.on (HX8.out.1) hU)) (fun U hU => c15 U (Below.on (HX8.out.1) hU)) (fun U hU => c16 U (Below.on (HX8.out.1) hU)) (fun U hU => c17 U (Below.on (HX8.out.1) hU)) (fun U hU => c18 U (Below.on (HX8.out.1) hU)) (fun U hU => kh.out U (hG.out.below (Below.on (HX8.out.1) hU))) ?_
  intro T X9 hT hS
  simp only [Act.put, List.setIfInBounds_toArray, List.set_cons_zero, List.set_cons_succ]
  simp only [hT]
  have hbl := hS.1
  clear hS
  have HX9 : Hid (Below w.heap.size w X9 ∧ Box X9 p 26 (ccL c) ∧ Box X9 q 28 (smL s) ∧ Box X9 ga 26 (ccL (rowed D va L vj)) ∧ Box X9 gb 26 (ccL (rowed D vb L vk)) ∧ w.heap.size ≤ p ∧ p < q ∧ q < ga ∧ ga < gb ∧ Fil.RowT X9 0 va L vj fs ∧ Fil.RowT X9 0 vb L vk fs ∧ True) := by
    obtain ⟨hb, b0, b1, b2, b3, l0, l1, l2, l3, r0, r1, _⟩ := HX8.out
    exact ⟨Below.on hb hbl, b0.later hbl, b1.later hbl, b2.later hbl, b3.later hbl, l0, l1, l2, l3, r0.later hbl, r1.later hbl, trivial⟩
  clear hbl hT HX8
  go_wp2_with fail
  go_ret
  exact ⟨rfl, HX9.out.1⟩

set_option maxRecDepth 100000 in
set_option maxHeartbeats 4000000 in
theorem mov_n (w : World) (c : Cc) (s : Sm) (er : Int) (x0 x1 x2 x3 : Int) (hG : Hid (G8 w)) (c1 : ∀ W, Below w.heap.size w W → Calls Tryd.prog 8 #[ccv c, agv (smL s)] W fun e w' => e = .returned (.tuple #[ccv zC, .int .i64 er]) ∧ Below W.heap.size W w') (c2 : ∀ W, Below w.heap.size w W → Calls Tryd.prog 9 #[ccv c, agv (smL s)] W fun e w' => e = .returned (.tuple #[ccv zC, .int .i64 er]) ∧ Below W.heap.size W w') (c11 : ∀ W, Below w.heap.size w W → Calls Tryd.prog 11 #[ccv c] W fun e w' => e = .returned (.int .i64 x0) ∧ Below W.heap.size W w') (c12 : ∀ W, Below w.heap.size w W → Calls Tryd.prog 12 #[ccv c] W fun e w' => e = .returned (.int .i64 x0) ∧ Below W.heap.size W w') (c13 : ∀ W, Below w.heap.size w W → Calls Tryd.prog 13 #[ccv c] W fun e w' => e = .returned (.int .i64 x1) ∧ Below W.heap.size W w') (c14 : ∀ W, Below w.heap.size w W → Calls Tryd.prog 14 #[ccv c] W fun e w' => e = .returned (.int .i64 x1) ∧ Below W.heap.size W w') (c15 : ∀ W, Below w.heap.size w W → Calls Tryd.prog 15 #[ccv c] W fun e w' => e = .returned (.int .i64 x2) ∧ Below W.heap.size W w') (c16 : ∀ W, Below w.heap.size w W → Calls Tryd.prog 16 #[ccv c] W fun e w' => e = .returned (.int .i64 x2) ∧ Below W.heap.size W w') (c17 : ∀ W, Below w.heap.size w W → Calls Tryd.prog 17 #[ccv c] W fun e w' => e = .returned (.int .i64 x3) ∧ Below W.heap.size W w') (c18 : ∀ W, Below w.heap.size w W → Calls Tryd.prog 18 #[ccv c] W fun e w' => e = .returned (.int .i64 x3) ∧ Below W.heap.size W w')  : Calls Tryd.prog 3 #[ccv c, agv (smL s)] w fun e w' => e = .returned (.bool true) ∧ Below w.heap.size w w' := by
  have kh : Hid (∀ W, G8 W → Calls Tryd.prog 19 #[] W fun e w' => e = .returned (.bool true) ∧ Below W.heap.size W w') := heads_any
  go_enter Tryd.func3, Tryd.ntmps3
  go_wp2_with (first | (refine wpC_box rfl rfl rfl ?_))
  intro X1 p HN
  have HX1 : Hid (Below w.heap.size w X1 ∧ Box X1 p 26 (ccL c) ∧ w.heap.size ≤ p ∧ True) := by
    have hb := Below.refl w.heap.size w
    obtain ⟨hg, hb2, bn⟩ := HN.out
    have hz := hb.size
    exact ⟨Below.on hb hb2, bn, by omega, trivial⟩
  clear HN 
  go_wp2_with (first | (refine wpS_box rfl rfl rfl ?_))
  intro X2 q HN
  have HX2 : Hid (Below w.heap.size w X2 ∧ Box X2 p 26 (ccL c) ∧ Box X2 q 28 (smL s) ∧ w.heap.size ≤ p ∧ p < q ∧ True) := by
    obtain ⟨hb, b0, l0, _⟩ := HX1.out
    obtain ⟨hg, hb2, bn⟩ := HN.out
    have z0 := b0.lt
    exact ⟨Below.on hb hb2, b0.later hb2, bn, l0, by omega, trivial⟩
  clear HN HX1
  go_wp2_with (first | (refine wpC_load rfl isC26 rfl rfl (HX2.out.2.1) ?_) | (refine wpS_load rfl rfl rfl (HX2.out.2.2.1) isS28 ?_) | fail)
  refine (c1 _ (HX2.out.1)).mono ?_
  rintro e w3 ⟨rfl, hB⟩
  have HX3 : Hid (Below w.heap.size w w3 ∧ Box w3 p 26 (ccL c) ∧ Box w3 q 28 (smL s) ∧ w.heap.size ≤ p ∧ p < q ∧ True) := by
    obtain ⟨hb, b0, b1, l0, l1, _⟩ := HX2.out
    exact ⟨Below.on hb hB, b0.later hB, b1.later hB, l0, l1, trivial⟩
  clear hB HX2
  go_wp2_with (first | (refine wpC_alloc rfl rfl zero26 ?_))
  intro X4 ga HN
  have HX4 : Hid (Below w.heap.size w X4 ∧ Box X4 p 26 (ccL c) ∧ Box X4 q 28 (smL s) ∧ Box X4 ga 26 (ccL zC) ∧ w.heap.size ≤ p ∧ p < q ∧ q < ga ∧ True) := by
    obtain ⟨hb, b0, b1, l0, l1, _⟩ := HX3.out
    obtain ⟨hg, hb2, bn⟩ := HN.out
    have z0 := b0.lt
    have z1 := b1.lt
    exact ⟨Below.on hb hb2, b0.later hb2, b1.later hb2, bn, l0, l1, by omega, trivial⟩
  clear HN HX3
  go_wp2_with (first | (refine wpC_store rfl isC26 rfl rfl rfl rfl (HX4.out.2.2.2.1) rfl ?_))
  intro X5 HN
  have HX5 : Hid (Below w.heap.size w X5 ∧ Box X5 p 26 (ccL c) ∧ Box X5 q 28 (smL s) ∧ Box X5 ga 26 (ccL zC) ∧ w.heap.size ≤ p ∧ p < q ∧ q < ga ∧ True) := by
    obtain ⟨hb, b0, b1, b2, l0, l1, l2, _⟩ := HX4.out
    obtain ⟨st, bn⟩ := HN.out
    exact ⟨st.below _ _ (by omega) hb, b0.sto st (by omega), b1.sto st (by omega), bn, l0, l1, l2, trivial⟩
  clear HN HX4
  clear c1
  go_wp2_with (first | (refine wpC_load rfl isC26 rfl rfl (HX5.out.2.1) ?_) | (refine wpS_load rfl rfl rfl (HX5.out.2.2.1) isS28 ?_) | fail)
  refine (c2 _ (HX5.out.1)).mono ?_
  rintro e w6 ⟨rfl, hB⟩
  have HX6 : Hid (Below w.heap.size w w6 ∧ Box w6 p 26 (ccL c) ∧ Box w6 q 28 (smL s) ∧ Box w6 ga 26 (ccL zC) ∧ w.heap.size ≤ p ∧ p < q ∧ q < ga ∧ True) := by
    obtain ⟨hb, b0, b1, b2, l0, l1, l2, _⟩ := HX5.out
    exact ⟨Below.on hb hB, b0.later hB, b1.later hB, b2.later hB, l0, l1, l2, trivial⟩
  clear hB HX5
  go_wp2_with (first | (refine wpC_alloc rfl rfl zero26 ?_))
  intro X7 gb HN
  have HX7 : Hid (Below w.heap.size w X7 ∧ Box X7 p 26 (ccL c) ∧ Box X7 q 28 (smL s) ∧ Box X7 ga 26 (ccL zC) ∧ Box X7 gb 26 (ccL zC) ∧ w.heap.size ≤ p ∧ p < q ∧ q < ga ∧ ga < gb ∧ True) := by
    obtain ⟨hb, b0, b1, b2, l0, l1, l2, _⟩ := HX6.out
    obtain ⟨hg, hb2, bn⟩ := HN.out
    have z0 := b0.lt
    have z1 := b1.lt
    have z2 := b2.lt
    exact ⟨Below.on hb hb2, b0.later hb2, b1.later hb2, b2.later hb2, bn, l0, l1, l2, by omega, trivial⟩
  clear HN HX6
  go_wp2_with (first | (refine wpC_store rfl isC26 rfl rfl rfl rfl (HX7.out.2.2.2.2.1) rfl ?_))
  intro X8 HN
  have HX8 : Hid (Below w.heap.size w X8 ∧ Box X8 p 26 (ccL c) ∧ Box X8 q 28 (smL s) ∧ Box X8 ga 26 (ccL zC) ∧ Box X8 gb 26 (ccL zC) ∧ w.heap.size ≤ p ∧ p < q ∧ q < ga ∧ ga < gb ∧ True) := by
    obtain ⟨hb, b0, b1, b2, b3, l0, l1, l2, l3, _⟩ := HX7.out
    obtain ⟨st, bn⟩ := HN.out
    exact ⟨st.below _ _ (by omega) hb, b0.sto st (by omega), b1.sto st (by omega), b2.sto st (by omega), bn, l0, l1, l2, l3, trivial⟩
  clear HN HX7
  clear c2
  go_upto_region 3 with fail
  refine mv3_reg (by rfl) c zC zC p ga gb er x0 x1 x2 x3 rfl rfl rfl rfl rfl (HX8.out.2.1) (HX8.out.2.2.2.1) (HX8.out.2.2.2.2.1) rfl (fun U _ => same8_z U) (fun U hU => c11 U (Below.on (HX8.out.1) hU)) (fun U hU => c12 U (Below.on (HX8.out.1) hU)) (fun U hU => c13 U (Below.on (HX8.out.1) hU)) (fun U hU => c14 U (Below.on (HX8.out.1) hU)) (fun U hU => c15 U (Below.on (HX8.out.1) hU)) (fun U hU => c16 U (Below.on (HX8.out.1) hU)) (fun U hU => c17 U (Below.on (HX8.out.1) hU)) (fun U hU => c18 U (Below.on (HX8.out.1) hU)) (fun U hU => kh.out U (hG.out.below (Below.on (HX8.out.1) hU))) ?_
  intro T X9 hT hS
  simp only [Act.put, List.setIfInBounds_toArray, List.set_cons_zero, List.set_cons_succ]
  simp only [hT]
  have hbl := hS.1
  clear hS
  have HX9 : Hid (Below w.heap.size w X9 ∧ Box X9 p 26 (ccL c) ∧ Box X9 q 28 (smL s) ∧ Box X9 ga 26 (ccL zC) ∧ Box X9 gb 26 (ccL zC) ∧ w.heap.size ≤ p ∧ p < q ∧ q < ga ∧ ga < gb ∧ True) := by
    obtain ⟨hb, b0, b1, b2, b3, l0, l1, l2, l3, _⟩ := HX8.out
    exact ⟨Below.on hb hbl, b0.later hbl, b1.later hbl, b2.later hbl, b3.later hbl, l0, l1, l2, l3, trivial⟩
  clear hbl hT HX8
  go_wp2_with fail
  go_ret
  exact ⟨rfl, HX9.out.1⟩

theorem moves_walk (c : Cc) (es : List Tm) (s : Sm) (w : World) (hI : CcI c) (hR : RowIn w c es) (hS : SmI s) (hG : G8 w) : Calls Tryd.prog 3 #[ccv c, agv (smL s)] w fun e w' => e = .returned (.bool true) ∧ Below w.heap.size w w' := by
  have q1 := fun W (hW : Below w.heap.size w W) => chk8_is c es hI hR.len W (hR.below hW).tims
  have q2 := fun W (hW : Below w.heap.size w W) => rchk8_is c es hR.len W (hR.below hW).tims
  have q3 := fun W (hW : Below w.heap.size w W) => bw8_is c es hI hR.len W (hR.below hW).tims
  have q4 := fun W (hW : Below w.heap.size w W) => rbw8_is c es hR.len W (hR.below hW).tims
  have q5 := fun W (hW : Below w.heap.size w W) => pr8_is c es hI hR.len W (hR.below hW).tims
  have q6 := fun W (hW : Below w.heap.size w W) => rpr8_is c es hR.len W (hR.below hW).tims
  have q7 := fun W (hW : Below w.heap.size w W) => gn8_is c es hI hR.len W (hR.below hW).tims (hG.below hW)
  have q8 := fun W (hW : Below w.heap.size w W) => rgn8_is c es hR.len W (hR.below hW).tims
  cases k : (okC c es && smB s) with
  | true =>
    obtain ⟨k1, k2⟩ := Bool.and_eq_true_iff.1 k
    exact mov_y w c s _ _ _ rfl _ _ _ _ hG (fun W hW => ack_yes c es s hI k1 k2 W (hR.below hW)) (fun W hW => rack_yes c es s k1 k2 W (hR.below hW)) q1 q2 q3 q4 q5 q6 q7 q8
  | false => exact mov_n w c s _ _ _ _ _ hG (fun W hW => ack_bad c es s hI k W (hR.below hW)) (fun W hW => rack_bad c es s k W (hR.below hW)) q1 q2 q3 q4 q5 q6 q7 q8
end Go.Proofs.YtagmighcofllhaaDoor
