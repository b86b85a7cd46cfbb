/- The walk of CubicGrows. -/
import Derived.Test.YtikcjdoeoghoeaaDets
import Derived.Test.YtikcjdoeoghoeaaOpen
import Derived.Test.YtikcjdoeoghoeaaRefAk
import Derived.Test.YtikcjdoeoghoeaaKSame
namespace Go.Proofs.Ytikcjdoeoghoeaa
open Go.ChangeShapes Go.WideShapes Go.ChangeAt Go.RowKit
set_option linter.unusedVariables false

theorem enter10 (args : Array Value) (w : World) : (callFunc 10 args).run Try.prog w = .ok (.enter 10 args) w := by kernel_rfl
theorem enter11 (args : Array Value) (w : World) : (callFunc 11 args).run Try.prog w = .ok (.enter 11 args) w := by kernel_rfl
theorem enter12 (args : Array Value) (w : World) : (callFunc 12 args).run Try.prog w = .ok (.enter 12 args) w := by kernel_rfl
theorem enter13 (args : Array Value) (w : World) : (callFunc 13 args).run Try.prog w = .ok (.enter 13 args) w := by kernel_rfl
theorem enter15 (args : Array Value) (w : World) : (callFunc 15 args).run Try.prog w = .ok (.enter 15 args) w := by kernel_rfl
def gl3O0 (ps : String) : Oper := { dst := some 33, op := .load 26 (.tmp 11), type := 26, pos := ps, after := #[], guard := none }
def gl3O1 (ps : String) : Oper := { dst := some 34, op := .load 26 (.tmp 13), type := 26, pos := ps, after := #[], guard := none }
def gl3O2 (ps : String) : Oper := { dst := some 35, op := .call { callee := .value (.func 10), args := #[.tmp 33, .tmp 34], argTypes := #[26, 26] }, type := 4, pos := ps, after := #[{ on := 0, ground := .data }, { on := 1, ground := .data }], guard := none }
def gl3O3 (ps : String) : Oper := { dst := some 36, op := .move (.tmp 35), type := 4, pos := ps, after := #[{ on := 2, ground := .data }, { on := 2, ground := .chain }], guard := none }
def gl3O4 (ps : String) : Oper := { dst := some 37, op := .move (.tmp 12), type := 27, pos := ps, after := #[{ on := 3, ground := .guard }], guard := some (3, true) }
def gl3O5 (ps : String) : Oper := { dst := some 38, op := .move (.tmp 14), type := 3, pos := ps, after := #[{ on := 3, ground := .guard }], guard := some (3, true) }
def gl3O6 (ps : String) : Oper := { dst := some 39, op := .binOp .eql 3 (.tmp 37) (.tmp 38) 3, type := 4, pos := ps, after := #[{ on := 4, ground := .data }, { on := 5, ground := .data }, { on := 3, ground := .guard }], guard := some (3, true) }
def gl3O7 (ps : String) : Oper := { dst := some 40, op := .pick (.tmp 36) (.tmp 39) (.const (.bool false)), type := 4, pos := ps, after := #[{ on := 3, ground := .data }, { on := 6, ground := .data }], guard := none }
def gl3O8 (ps : String) : Oper := { dst := some 41, op := .move (.tmp 40), type := 4, pos := ps, after := #[{ on := 7, ground := .data }, { on := 3, ground := .chain }], guard := none }
def gl3O9 (ps : String) : Oper := { dst := some 42, op := .load 26 (.tmp 5), type := 26, pos := ps, after := #[{ on := 8, ground := .guard }], guard := some (8, true) }
def gl3O10 (ps : String) : Oper := { dst := some 43, op := .call { callee := .value (.func 11), args := #[.tmp 42], argTypes := #[26] }, type := 27, pos := ps, after := #[{ on := 9, ground := .data }, { on := 8, ground := .chain }, { on := 8, ground := .guard }], guard := some (8, true) }
def gl3O11 (ps : String) : Oper := { dst := some 44, op := .load 26 (.tmp 5), type := 26, pos := ps, after := #[{ on := 8, ground := .guard }], guard := some (8, true) }
def gl3O12 (ps : String) : Oper := { dst := some 45, op := .call { callee := .value (.func 12), args := #[.tmp 44], argTypes := #[26] }, type := 3, pos := ps, after := #[{ on := 11, ground := .data }, { on := 10, ground := .chain }, { on := 8, ground := .guard }], guard := some (8, true) }
def gl3O13 (ps : String) : Oper := { dst := some 46, op := .binOp .eql 3 (.tmp 43) (.tmp 45) 3, type := 4, pos := ps, after := #[{ on := 10, ground := .data }, { on := 12, ground := .data }, { on := 8, ground := .guard }], guard := some (8, true) }
def gl3O14 (ps : String) : Oper := { dst := some 47, op := .pick (.tmp 41) (.tmp 46) (.const (.bool false)), type := 4, pos := ps, after := #[{ on := 8, ground := .data }, { on := 13, ground := .data }], guard := none }
def gl3O15 (ps : String) : Oper := { dst := some 48, op := .move (.tmp 47), type := 4, pos := ps, after := #[{ on := 14, ground := .data }, { on := 12, ground := .chain }], guard := none }
def gl3O16 (ps : String) : Oper := { dst := some 49, op := .load 26 (.tmp 5), type := 26, pos := ps, after := #[{ on := 15, ground := .guard }], guard := some (15, true) }
def gl3O17 (ps : String) : Oper := { dst := some 50, op := .move (.tmp 2), type := 3, pos := ps, after := #[{ on := 15, ground := .guard }], guard := some (15, true) }
def gl3O18 (ps : String) : Oper := { dst := some 51, op := .call { callee := .value (.func 13), args := #[.tmp 49, .tmp 50], argTypes := #[26, 3] }, type := 3, pos := ps, after := #[{ on := 16, ground := .data }, { on := 17, ground := .data }, { on := 15, ground := .chain }, { on := 15, ground := .guard }], guard := some (15, true) }
def gl3O19 (ps : String) : Oper := { dst := some 52, op := .load 26 (.tmp 5), type := 26, pos := ps, after := #[{ on := 15, ground := .guard }], guard := some (15, true) }
def gl3O20 (ps : String) : Oper := { dst := some 53, op := .move (.tmp 2), type := 3, pos := ps, after := #[{ on := 15, ground := .guard }], guard := some (15, true) }
def gl3O21 (ps : String) : Oper := { dst := some 54, op := .call { callee := .value (.func 14), args := #[.tmp 52, .tmp 53], argTypes := #[26, 3] }, type := 3, pos := ps, after := #[{ on := 19, ground := .data }, { on := 20, ground := .data }, { on := 18, ground := .chain }, { on := 15, ground := .guard }], guard := some (15, true) }
def gl3O22 (ps : String) : Oper := { dst := some 55, op := .binOp .eql 3 (.tmp 51) (.tmp 54) 3, type := 4, pos := ps, after := #[{ on := 18, ground := .data }, { on := 21, ground := .data }, { on := 15, ground := .guard }], guard := some (15, true) }
def gl3O23 (ps : String) : Oper := { dst := some 56, op := .pick (.tmp 48) (.tmp 55) (.const (.bool false)), type := 4, pos := ps, after := #[{ on := 15, ground := .data }, { on := 22, ground := .data }], guard := none }
def gl3O24 (ps : String) : Oper := { dst := some 57, op := .move (.tmp 56), type := 4, pos := ps, after := #[{ on := 23, ground := .data }, { on := 21, ground := .chain }], guard := none }
def gl3O25 (ps : String) : Oper := { dst := some 58, op := .load 26 (.tmp 5), type := 26, pos := ps, after := #[{ on := 24, ground := .guard }], guard := some (24, true) }
def gl3O26 (ps : String) : Oper := { dst := some 59, op := .move (.tmp 3), type := 3, pos := ps, after := #[{ on := 24, ground := .guard }], guard := some (24, true) }
def gl3O27 (ps : String) : Oper := { dst := some 60, op := .unOp .neg 3 (.tmp 59), type := 3, pos := ps, after := #[{ on := 26, ground := .data }, { on := 24, ground := .guard }], guard := some (24, true) }
def gl3O28 (ps : String) : Oper := { dst := some 61, op := .call { callee := .value (.func 13), args := #[.tmp 58, .tmp 60], argTypes := #[26, 3] }, type := 3, pos := ps, after := #[{ on := 25, ground := .data }, { on := 27, ground := .data }, { on := 24, ground := .chain }, { on := 24, ground := .guard }], guard := some (24, true) }
def gl3O29 (ps : String) : Oper := { dst := some 62, op := .load 26 (.tmp 5), type := 26, pos := ps, after := #[{ on := 24, ground := .guard }], guard := some (24, true) }
def gl3O30 (ps : String) : Oper := { dst := some 63, op := .move (.tmp 3), type := 3, pos := ps, after := #[{ on := 24, ground := .guard }], guard := some (24, true) }
def gl3O31 (ps : String) : Oper := { dst := some 64, op := .unOp .neg 3 (.tmp 63), type := 3, pos := ps, after := #[{ on := 30, ground := .data }, { on := 24, ground := .guard }], guard := some (24, true) }
def gl3O32 (ps : String) : Oper := { dst := some 65, op := .call { callee := .value (.func 14), args := #[.tmp 62, .tmp 64], argTypes := #[26, 3] }, type := 3, pos := ps, after := #[{ on := 29, ground := .data }, { on := 31, ground := .data }, { on := 28, ground := .chain }, { on := 24, ground := .guard }], guard := some (24, true) }
def gl3O33 (ps : String) : Oper := { dst := some 66, op := .binOp .eql 3 (.tmp 61) (.tmp 65) 3, type := 4, pos := ps, after := #[{ on := 28, ground := .data }, { on := 32, ground := .data }, { on := 24, ground := .guard }], guard := some (24, true) }
def gl3O34 (ps : String) : Oper := { dst := some 67, op := .pick (.tmp 57) (.tmp 66) (.const (.bool false)), type := 4, pos := ps, after := #[{ on := 24, ground := .data }, { on := 33, ground := .data }], guard := none }
def gl3O35 (ps : String) : Oper := { dst := some 68, op := .move (.tmp 67), type := 4, pos := ps, after := #[{ on := 34, ground := .data }, { on := 32, ground := .chain }], guard := none }
def gl3O36 (ps : String) : Oper := { dst := some 69, op := .call { callee := .value (.func 15), args := #[], argTypes := #[] }, type := 4, pos := ps, after := #[{ on := 35, ground := .chain }, { on := 35, ground := .guard }], guard := some (35, true) }
def gl3O37 (ps : String) : Oper := { dst := some 70, op := .pick (.tmp 68) (.tmp 69) (.const (.bool false)), type := 4, pos := ps, after := #[{ on := 35, ground := .data }, { on := 36, ground := .data }], guard := none }
def gl3O38 (ps : String) : Oper := { dst := some 10, op := .assign (.tmp 70), type := 4, pos := ps, after := #[{ on := 37, ground := .data }, { on := 36, ground := .chain }, { on := 0, ground := .phase }, { on := 1, ground := .phase }, { on := 2, ground := .phase }, { on := 3, ground := .phase }, { on := 4, ground := .phase }, { on := 5, ground := .phase }, { on := 6, ground := .phase }, { on := 7, ground := .phase }, { on := 8, ground := .phase }, { on := 9, ground := .phase }, { on := 10, ground := .phase }, { on := 11, ground := .phase }, { on := 12, ground := .phase }, { on := 13, ground := .phase }, { on := 14, ground := .phase }, { on := 15, ground := .phase }, { on := 16, ground := .phase }, { on := 17, ground := .phase }, { on := 18, ground := .phase }, { on := 19, ground := .phase }, { on := 20, ground := .phase }, { on := 21, ground := .phase }, { on := 22, ground := .phase }, { on := 23, ground := .phase }, { on := 24, ground := .phase }, { on := 25, ground := .phase }, { on := 26, ground := .phase }, { on := 27, ground := .phase }, { on := 28, ground := .phase }, { on := 29, ground := .phase }, { on := 30, ground := .phase }, { on := 31, ground := .phase }, { on := 32, ground := .phase }, { on := 33, ground := .phase }, { on := 34, ground := .phase }, { on := 35, ground := .phase }, { on := 36, ground := .phase }, { on := 37, ground := .phase }], guard := none }
def gl3 (ps : String) : Array Oper := #[gl3O0 ps, gl3O1 ps, gl3O2 ps, gl3O3 ps, gl3O4 ps, gl3O5 ps, gl3O6 ps, gl3O7 ps, gl3O8 ps, gl3O9 ps, gl3O10 ps, gl3O11 ps, gl3O12 ps, gl3O13 ps, gl3O14 ps, gl3O15 ps, gl3O16 ps, gl3O17 ps, gl3O18 ps, gl3O19 ps, gl3O20 ps, gl3O21 ps, gl3O22 ps, gl3O23 ps, gl3O24 ps, gl3O25 ps, gl3O26 ps, gl3O27 ps, gl3O28 ps, gl3O29 ps, gl3O30 ps, gl3O31 ps, gl3O32 ps, gl3O33 ps, gl3O34 ps, gl3O35 ps, gl3O36 ps, gl3O37 ps, gl3O38 ps]
theorem gl3_0 (ps : String) : (gl3 ps)[0]? = some (gl3O0 ps) := rfl
theorem gl3_1 (ps : String) : (gl3 ps)[1]? = some (gl3O1 ps) := rfl
theorem gl3_2 (ps : String) : (gl3 ps)[2]? = some (gl3O2 ps) := rfl
theorem gl3_3 (ps : String) : (gl3 ps)[3]? = some (gl3O3 ps) := rfl
theorem gl3_4 (ps : String) : (gl3 ps)[4]? = some (gl3O4 ps) := rfl
theorem gl3_5 (ps : String) : (gl3 ps)[5]? = some (gl3O5 ps) := rfl
theorem gl3_6 (ps : String) : (gl3 ps)[6]? = some (gl3O6 ps) := rfl
theorem gl3_7 (ps : String) : (gl3 ps)[7]? = some (gl3O7 ps) := rfl
theorem gl3_8 (ps : String) : (gl3 ps)[8]? = some (gl3O8 ps) := rfl
theorem gl3_9 (ps : String) : (gl3 ps)[9]? = some (gl3O9 ps) := rfl
theorem gl3_10 (ps : String) : (gl3 ps)[10]? = some (gl3O10 ps) := rfl
theorem gl3_11 (ps : String) : (gl3 ps)[11]? = some (gl3O11 ps) := rfl
theorem gl3_12 (ps : String) : (gl3 ps)[12]? = some (gl3O12 ps) := rfl
theorem gl3_13 (ps : String) : (gl3 ps)[13]? = some (gl3O13 ps) := rfl
theorem gl3_14 (ps : String) : (gl3 ps)[14]? = some (gl3O14 ps) := rfl
theorem gl3_15 (ps : String) : (gl3 ps)[15]? = some (gl3O15 ps) := rfl
theorem gl3_16 (ps : String) : (gl3 ps)[16]? = some (gl3O16 ps) := rfl
theorem gl3_17 (ps : String) : (gl3 ps)[17]? = some (gl3O17 ps) := rfl
theorem gl3_18 (ps : String) : (gl3 ps)[18]? = some (gl3O18 ps) := rfl
theorem gl3_19 (ps : String) : (gl3 ps)[19]? = some (gl3O19 ps) := rfl
theorem gl3_20 (ps : String) : (gl3 ps)[20]? = some (gl3O20 ps) := rfl
theorem gl3_21 (ps : String) : (gl3 ps)[21]? = some (gl3O21 ps) := rfl
theorem gl3_22 (ps : String) : (gl3 ps)[22]? = some (gl3O22 ps) := rfl
theorem gl3_23 (ps : String) : (gl3 ps)[23]? = some (gl3O23 ps) := rfl
theorem gl3_24 (ps : String) : (gl3 ps)[24]? = some (gl3O24 ps) := rfl
theorem gl3_25 (ps : String) : (gl3 ps)[25]? = some (gl3O25 ps) := rfl
theorem gl3_26 (ps : String) : (gl3 ps)[26]? = some (gl3O26 ps) := rfl
theorem gl3_27 (ps : String) : (gl3 ps)[27]? = some (gl3O27 ps) := rfl
theorem gl3_28 (ps : String) : (gl3 ps)[28]? = some (gl3O28 ps) := rfl
theorem gl3_29 (ps : String) : (gl3 ps)[29]? = some (gl3O29 ps) := rfl
theorem gl3_30 (ps : String) : (gl3 ps)[30]? = some (gl3O30 ps) := rfl
theorem gl3_31 (ps : String) : (gl3 ps)[31]? = some (gl3O31 ps) := rfl
theorem gl3_32 (ps : String) : (gl3 ps)[32]? = some (gl3O32 ps) := rfl
theorem gl3_33 (ps : String) : (gl3 ps)[33]? = some (gl3O33 ps) := rfl
theorem gl3_34 (ps : String) : (gl3 ps)[34]? = some (gl3O34 ps) := rfl
theorem gl3_35 (ps : String) : (gl3 ps)[35]? = some (gl3O35 ps) := rfl
theorem gl3_36 (ps : String) : (gl3 ps)[36]? = some (gl3O36 ps) := rfl
theorem gl3_37 (ps : String) : (gl3 ps)[37]? = some (gl3O37 ps) := rfl
theorem gl3_38 (ps : String) : (gl3 ps)[38]? = some (gl3O38 ps) := rfl
def gl3D : Nat → Option Tmp
  | 0 => some 33
  | 1 => some 34
  | 2 => some 35
  | 3 => some 36
  | 4 => some 37
  | 5 => some 38
  | 6 => some 39
  | 7 => some 40
  | 8 => some 41
  | 9 => some 42
  | 10 => some 43
  | 11 => some 44
  | 12 => some 45
  | 13 => some 46
  | 14 => some 47
  | 15 => some 48
  | 16 => some 49
  | 17 => some 50
  | 18 => some 51
  | 19 => some 52
  | 20 => some 53
  | 21 => some 54
  | 22 => some 55
  | 23 => some 56
  | 24 => some 57
  | 25 => some 58
  | 26 => some 59
  | 27 => some 60
  | 28 => some 61
  | 29 => some 62
  | 30 => some 63
  | 31 => some 64
  | 32 => some 65
  | 33 => some 66
  | 34 => some 67
  | 35 => some 68
  | 36 => some 69
  | 37 => some 70
  | 38 => some 10
  | _ => none
def gl3T (c A B : Cc) (p ga gb : Nat) (now srtt ns er kk x1 x2 : Int) : Nat → Value
  | 0 => ccv A
  | 1 => ccv B
  | 2 => .bool true
  | 3 => .bool true
  | 4 => .int .i64 er
  | 5 => .int .i64 er
  | 6 => .bool true
  | 7 => .bool true
  | 8 => .bool true
  | 9 => ccv c
  | 10 => .int .i64 kk
  | 11 => ccv c
  | 12 => .int .i64 kk
  | 13 => .bool true
  | 14 => .bool true
  | 15 => .bool true
  | 16 => ccv c
  | 17 => .int .i64 now
  | 18 => .int .i64 x1
  | 19 => ccv c
  | 20 => .int .i64 now
  | 21 => .int .i64 x1
  | 22 => .bool true
  | 23 => .bool true
  | 24 => .bool true
  | 25 => ccv c
  | 26 => .int .i64 srtt
  | 27 => .int .i64 ns
  | 28 => .int .i64 x2
  | 29 => ccv c
  | 30 => .int .i64 srtt
  | 31 => .int .i64 ns
  | 32 => .int .i64 x2
  | 33 => .bool true
  | 34 => .bool true
  | 35 => .bool true
  | 36 => .bool true
  | 37 => .bool true
  | 38 => .bool true
  | _ => undef
set_option maxRecDepth 100000 in
set_option maxHeartbeats 4000000 in
theorem gl3_reg {ps : String} {Q : Exit → Act → World → Prop} {a0 : Act} {W0 : World} (sz : a0.tmps.size = 71) (c A B : Cc) (p ga gb : Nat) (now srtt ns er kk x1 x2 : Int)
    (e5 : a0.eval (.tmp 5) = .pointer (some ⟨p, 0, none⟩)) (e11 : a0.eval (.tmp 11) = .pointer (some ⟨ga, 0, none⟩)) (e13 : a0.eval (.tmp 13) = .pointer (some ⟨gb, 0, none⟩)) (e12 : a0.eval (.tmp 12) = .int .i64 er) (e14 : a0.eval (.tmp 14) = .int .i64 er) (e2 : a0.eval (.tmp 2) = .int .i64 now) (e3 : a0.eval (.tmp 3) = .int .i64 srtt)
    (hb0 : Box W0 p 26 (ccL c)) (hb1 : Box W0 ga 26 (ccL A)) (hb2 : Box W0 gb 26 (ccL B)) (hns : IntKind.i64.wrap (-srtt) = ns) (c3 : ∀ W, Calls Try.prog 10 #[ccv A, ccv B] W fun e w' => e = .returned (.bool true) ∧ Below W.heap.size W w')(c4 : ∀ W, Calls Try.prog 11 #[ccv c] W fun e w' => e = .returned (.int .i64 kk) ∧ Below W.heap.size W w')(c5 : ∀ W, Calls Try.prog 12 #[ccv c] W fun e w' => e = .returned (.int .i64 kk) ∧ Below W.heap.size W w')(c6 : ∀ W, Calls Try.prog 13 #[ccv c, .int .i64 now] W fun e w' => e = .returned (.int .i64 x1) ∧ Below W.heap.size W w')(c7 : ∀ W, Calls Try.prog 14 #[ccv c, .int .i64 now] W fun e w' => e = .returned (.int .i64 x1) ∧ Below W.heap.size W w')(c8 : ∀ W, Calls Try.prog 13 #[ccv c, .int .i64 ns] W fun e w' => e = .returned (.int .i64 x2) ∧ Below W.heap.size W w')(c9 : ∀ W, Calls Try.prog 14 #[ccv c, .int .i64 ns] W fun e w' => e = .returned (.int .i64 x2) ∧ Below W.heap.size W w')(c10 : ∀ W, Calls Try.prog 15 #[] W fun e w' => e = .returned (.bool true) ∧ Below W.heap.size W w')
    (hfin : ∀ (T : Nat → Value) w, T 38 = .bool true → Box w p 26 (ccL c) ∧ Box w ga 26 (ccL A) ∧ Box w gb 26 (ccL B) ∧ Below W0.heap.size W0 w → Q .normal (((((((((((((((((((((((((((((((((((((((a0.put (some 33) (T 0)).put (some 34) (T 1)).put (some 35) (T 2)).put (some 36) (T 3)).put (some 37) (T 4)).put (some 38) (T 5)).put (some 39) (T 6)).put (some 40) (T 7)).put (some 41) (T 8)).put (some 42) (T 9)).put (some 43) (T 10)).put (some 44) (T 11)).put (some 45) (T 12)).put (some 46) (T 13)).put (some 47) (T 14)).put (some 48) (T 15)).put (some 49) (T 16)).put (some 50) (T 17)).put (some 51) (T 18)).put (some 52) (T 19)).put (some 53) (T 20)).put (some 54) (T 21)).put (some 55) (T 22)).put (some 56) (T 23)).put (some 57) (T 24)).put (some 58) (T 25)).put (some 59) (T 26)).put (some 60) (T 27)).put (some 61) (T 28)).put (some 62) (T 29)).put (some 63) (T 30)).put (some 64) (T 31)).put (some 65) (T 32)).put (some 66) (T 33)).put (some 67) (T 34)).put (some 68) (T 35)).put (some 69) (T 36)).put (some 70) (T 37)).put (some 10) (T 38)) w) :
    (Code.region 3 (gl3 ps) true).wp Try.prog Q a0 W0 := by
  refine wp_region_dets (by kernel_rfl) 39 rfl gl3D ?_ (by decide) (gl3T c A B p ga gb now srtt ns er kk x1 x2) (fun D w => Box w p 26 (ccL c) ∧ Box w ga 26 (ccL A) ∧ Box w gb 26 (ccL B) ∧ Below W0.heap.size W0 w) (fun D _ => ⟨hb0.drew, hb1.drew, hb2.drew, Below.drew (Below.refl _ _)⟩) ?_ (by rfl) (fun w D _ hSw => hfin (gl3T c A B p ga gb now srtt ns er kk x1 x2) w rfl hSw)
  · intro jq t hj ht
    have : ∀ j, j < 39 → (gl3D j).all (· < 71) = true := by decide
    have := this jq hj
    rw [ht] at this
    rw [sz]
    simpa using this
  · intro iq o ho D a w hSw hDi hcl hs hel K hK
    have hin : iq < 39 := (Array.getElem?_eq_some_iff.1 ho).1
    match iq, hin, ho with
    | 0, _, ho =>
      obtain rfl := Option.some.inj (ho.symm.trans (gl3_0 ps))
      have u11 : a.eval (.tmp 11) = .pointer (some ⟨ga, 0, none⟩) := (hel 11 (by decide)).trans e11
      exact op_valW (gl3_0 ps) rfl (v := ccv A) (run_loadC isC26 rfl u11 hSw.2.1) (hK w (fun D' _ _ => hSw))
    | 1, _, ho =>
      obtain rfl := Option.some.inj (ho.symm.trans (gl3_1 ps))
      have u13 : a.eval (.tmp 13) = .pointer (some ⟨gb, 0, none⟩) := (hel 13 (by decide)).trans e13
      exact op_valW (gl3_1 ps) rfl (v := ccv B) (run_loadC isC26 rfl u13 hSw.2.2.1) (hK w (fun D' _ _ => hSw))
    | 2, _, ho =>
      obtain rfl := Option.some.inj (ho.symm.trans (gl3_2 ps))
      have s0 : a.eval (.tmp 33) = ccv A := hs 0 33 (by rfl) rfl
      have s1 : a.eval (.tmp 34) = ccv B := hs 1 34 (by rfl) rfl
      exact op_enterW (gl3_2 ps) rfl (f := 10) (args := #[ccv A, ccv B]) (by rw [run_call rfl enter10]; simp only [List.map_toArray, List.map_cons, List.map_nil, s0, s1]; try rfl) ((c3 w).mono (fun e w' hh => ⟨_, hh.1, hK w' (fun D' _ _ => ⟨hSw.1.later hh.2, hSw.2.1.later hh.2, hSw.2.2.1.later hh.2, Below.on hSw.2.2.2 hh.2⟩)⟩))
    | 3, _, ho =>
      obtain rfl := Option.some.inj (ho.symm.trans (gl3_3 ps))
      have s2 : a.eval (.tmp 35) = .bool true := hs 2 35 (by rfl) rfl
      exact op_valW (gl3_3 ps) rfl (v := .bool true) (by unfold gl3O3 execOp; simp only [s2]; first | (go_simp; done) | (go_simp; with_reducible rfl)) (hK w (fun D' _ _ => hSw))
    | 4, _, ho =>
      obtain rfl := Option.some.inj (ho.symm.trans (gl3_4 ps))
      have s3 : a.eval (.tmp 36) = .bool true := hs 3 36 (by rfl) rfl
      have u12 : a.eval (.tmp 12) = .int .i64 er := (hel 12 (by decide)).trans e12
      exact op_valW (gl3_4 ps) (by rw [wanted_of rfl (gl3_3 ps) rfl s3]; rfl) (v := .int .i64 er) (by unfold gl3O4 execOp; simp only [u12]; first | (go_simp; done) | (go_simp; with_reducible rfl)) (hK w (fun D' _ _ => hSw))
    | 5, _, ho =>
      obtain rfl := Option.some.inj (ho.symm.trans (gl3_5 ps))
      have s3 : a.eval (.tmp 36) = .bool true := hs 3 36 (by rfl) rfl
      have u14 : a.eval (.tmp 14) = .int .i64 er := (hel 14 (by decide)).trans e14
      exact op_valW (gl3_5 ps) (by rw [wanted_of rfl (gl3_3 ps) rfl s3]; rfl) (v := .int .i64 er) (by unfold gl3O5 execOp; simp only [u14]; first | (go_simp; done) | (go_simp; with_reducible rfl)) (hK w (fun D' _ _ => hSw))
    | 6, _, ho =>
      obtain rfl := Option.some.inj (ho.symm.trans (gl3_6 ps))
      have s4 : a.eval (.tmp 37) = .int .i64 er := hs 4 37 (by rfl) rfl
      have s5 : a.eval (.tmp 38) = .int .i64 er := hs 5 38 (by rfl) rfl
      have s3 : a.eval (.tmp 36) = .bool true := hs 3 36 (by rfl) rfl
      exact op_valW (gl3_6 ps) (by rw [wanted_of rfl (gl3_3 ps) rfl s3]; rfl) (v := .bool true) (by unfold gl3O6 execOp; simp only [s4, s5]; first | (go_simp; done) | (go_simp; with_reducible rfl)) (hK w (fun D' _ _ => hSw))
    | 7, _, ho =>
      obtain rfl := Option.some.inj (ho.symm.trans (gl3_7 ps))
      have s3 : a.eval (.tmp 36) = .bool true := hs 3 36 (by rfl) rfl
      have s6 : a.eval (.tmp 39) = .bool true := hs 6 39 (by rfl) rfl
      exact op_valW (gl3_7 ps) rfl (v := .bool true) (by unfold gl3O7 execOp; simp only [s3, s6]; first | (go_simp; done) | (go_simp; with_reducible rfl)) (hK w (fun D' _ _ => hSw))
    | 8, _, ho =>
      obtain rfl := Option.some.inj (ho.symm.trans (gl3_8 ps))
      have s7 : a.eval (.tmp 40) = .bool true := hs 7 40 (by rfl) rfl
      exact op_valW (gl3_8 ps) rfl (v := .bool true) (by unfold gl3O8 execOp; simp only [s7]; first | (go_simp; done) | (go_simp; with_reducible rfl)) (hK w (fun D' _ _ => hSw))
    | 9, _, ho =>
      obtain rfl := Option.some.inj (ho.symm.trans (gl3_9 ps))
      have s8 : a.eval (.tmp 41) = .bool true := hs 8 41 (by rfl) rfl
      have u5 : a.eval (.tmp 5) = .pointer (some ⟨p, 0, none⟩) := (hel 5 (by decide)).trans e5
      exact op_valW (gl3_9 ps) (by rw [wanted_of rfl (gl3_8 ps) rfl s8]; rfl) (v := ccv c) (run_loadC isC26 rfl u5 hSw.1) (hK w (fun D' _ _ => hSw))
    | 10, _, ho =>
      obtain rfl := Option.some.inj (ho.symm.trans (gl3_10 ps))
      have s9 : a.eval (.tmp 42) = ccv c := hs 9 42 (by rfl) rfl
      have s8 : a.eval (.tmp 41) = .bool true := hs 8 41 (by rfl) rfl
      exact op_enterW (gl3_10 ps) (by rw [wanted_of rfl (gl3_8 ps) rfl s8]; rfl) (f := 11) (args := #[ccv c]) (by rw [run_call rfl enter11]; simp only [List.map_toArray, List.map_cons, List.map_nil, s9]; try rfl) ((c4 w).mono (fun e w' hh => ⟨_, hh.1, hK w' (fun D' _ _ => ⟨hSw.1.later hh.2, hSw.2.1.later hh.2, hSw.2.2.1.later hh.2, Below.on hSw.2.2.2 hh.2⟩)⟩))
    | 11, _, ho =>
      obtain rfl := Option.some.inj (ho.symm.trans (gl3_11 ps))
      have s8 : a.eval (.tmp 41) = .bool true := hs 8 41 (by rfl) rfl
      have u5 : a.eval (.tmp 5) = .pointer (some ⟨p, 0, none⟩) := (hel 5 (by decide)).trans e5
      exact op_valW (gl3_11 ps) (by rw [wanted_of rfl (gl3_8 ps) rfl s8]; rfl) (v := ccv c) (run_loadC isC26 rfl u5 hSw.1) (hK w (fun D' _ _ => hSw))
    | 12, _, ho =>
      obtain rfl := Option.some.inj (ho.symm.trans (gl3_12 ps))
      have s11 : a.eval (.tmp 44) = ccv c := hs 11 44 (by rfl) rfl
      have s8 : a.eval (.tmp 41) = .bool true := hs 8 41 (by rfl) rfl
      exact op_enterW (gl3_12 ps) (by rw [wanted_of rfl (gl3_8 ps) rfl s8]; rfl) (f := 12) (args := #[ccv c]) (by rw [run_call rfl enter12]; simp only [List.map_toArray, List.map_cons, List.map_nil, s11]; try rfl) ((c5 w).mono (fun e w' hh => ⟨_, hh.1, hK w' (fun D' _ _ => ⟨hSw.1.later hh.2, hSw.2.1.later hh.2, hSw.2.2.1.later hh.2, Below.on hSw.2.2.2 hh.2⟩)⟩))
    | 13, _, ho =>
      obtain rfl := Option.some.inj (ho.symm.trans (gl3_13 ps))
      have s10 : a.eval (.tmp 43) = .int .i64 kk := hs 10 43 (by rfl) rfl
      have s12 : a.eval (.tmp 45) = .int .i64 kk := hs 12 45 (by rfl) rfl
      have s8 : a.eval (.tmp 41) = .bool true := hs 8 41 (by rfl) rfl
      exact op_valW (gl3_13 ps) (by rw [wanted_of rfl (gl3_8 ps) rfl s8]; rfl) (v := .bool true) (by unfold gl3O13 execOp; simp only [s10, s12]; first | (go_simp; done) | (go_simp; with_reducible rfl)) (hK w (fun D' _ _ => hSw))
    | 14, _, ho =>
      obtain rfl := Option.some.inj (ho.symm.trans (gl3_14 ps))
      have s8 : a.eval (.tmp 41) = .bool true := hs 8 41 (by rfl) rfl
      have s13 : a.eval (.tmp 46) = .bool true := hs 13 46 (by rfl) rfl
      exact op_valW (gl3_14 ps) rfl (v := .bool true) (by unfold gl3O14 execOp; simp only [s8, s13]; first | (go_simp; done) | (go_simp; with_reducible rfl)) (hK w (fun D' _ _ => hSw))
    | 15, _, ho =>
      obtain rfl := Option.some.inj (ho.symm.trans (gl3_15 ps))
      have s14 : a.eval (.tmp 47) = .bool true := hs 14 47 (by rfl) rfl
      exact op_valW (gl3_15 ps) rfl (v := .bool true) (by unfold gl3O15 execOp; simp only [s14]; first | (go_simp; done) | (go_simp; with_reducible rfl)) (hK w (fun D' _ _ => hSw))
    | 16, _, ho =>
      obtain rfl := Option.some.inj (ho.symm.trans (gl3_16 ps))
      have s15 : a.eval (.tmp 48) = .bool true := hs 15 48 (by rfl) rfl
      have u5 : a.eval (.tmp 5) = .pointer (some ⟨p, 0, none⟩) := (hel 5 (by decide)).trans e5
      exact op_valW (gl3_16 ps) (by rw [wanted_of rfl (gl3_15 ps) rfl s15]; rfl) (v := ccv c) (run_loadC isC26 rfl u5 hSw.1) (hK w (fun D' _ _ => hSw))
    | 17, _, ho =>
      obtain rfl := Option.some.inj (ho.symm.trans (gl3_17 ps))
      have s15 : a.eval (.tmp 48) = .bool true := hs 15 48 (by rfl) rfl
      have u2 : a.eval (.tmp 2) = .int .i64 now := (hel 2 (by decide)).trans e2
      exact op_valW (gl3_17 ps) (by rw [wanted_of rfl (gl3_15 ps) rfl s15]; rfl) (v := .int .i64 now) (by unfold gl3O17 execOp; simp only [u2]; first | (go_simp; done) | (go_simp; with_reducible rfl)) (hK w (fun D' _ _ => hSw))
    | 18, _, ho =>
      obtain rfl := Option.some.inj (ho.symm.trans (gl3_18 ps))
      have s16 : a.eval (.tmp 49) = ccv c := hs 16 49 (by rfl) rfl
      have s17 : a.eval (.tmp 50) = .int .i64 now := hs 17 50 (by rfl) rfl
      have s15 : a.eval (.tmp 48) = .bool true := hs 15 48 (by rfl) rfl
      exact op_enterW (gl3_18 ps) (by rw [wanted_of rfl (gl3_15 ps) rfl s15]; rfl) (f := 13) (args := #[ccv c, .int .i64 now]) (by rw [run_call rfl enter13]; simp only [List.map_toArray, List.map_cons, List.map_nil, s16, s17]; try rfl) ((c6 w).mono (fun e w' hh => ⟨_, hh.1, hK w' (fun D' _ _ => ⟨hSw.1.later hh.2, hSw.2.1.later hh.2, hSw.2.2.1.later hh.2, Below.on hSw.2.2.2 hh.2⟩)⟩))
    | 19, _, ho =>
      obtain rfl := Option.some.inj (ho.symm.trans (gl3_19 ps))
      have s15 : a.eval (.tmp 48) = .bool true := hs 15 48 (by rfl) rfl
      have u5 : a.eval (.tmp 5) = .pointer (some ⟨p, 0, none⟩) := (hel 5 (by decide)).trans e5
      exact op_valW (gl3_19 ps) (by rw [wanted_of rfl (gl3_15 ps) rfl s15]; rfl) (v := ccv c) (run_loadC isC26 rfl u5 hSw.1) (hK w (fun D' _ _ => hSw))
    | 20, _, ho =>
      obtain rfl := Option.some.inj (ho.symm.trans (gl3_20 ps))
      have s15 : a.eval (.tmp 48) = .bool true := hs 15 48 (by rfl) rfl
      have u2 : a.eval (.tmp 2) = .int .i64 now := (hel 2 (by decide)).trans e2
      exact op_valW (gl3_20 ps) (by rw [wanted_of rfl (gl3_15 ps) rfl s15]; rfl) (v := .int .i64 now) (by unfold gl3O20 execOp; simp only [u2]; first | (go_simp; done) | (go_simp; with_reducible rfl)) (hK w (fun D' _ _ => hSw))
    | 21, _, ho =>
      obtain rfl := Option.some.inj (ho.symm.trans (gl3_21 ps))
      have s19 : a.eval (.tmp 52) = ccv c := hs 19 52 (by rfl) rfl
      have s20 : a.eval (.tmp 53) = .int .i64 now := hs 20 53 (by rfl) rfl
      have s15 : a.eval (.tmp 48) = .bool true := hs 15 48 (by rfl) rfl
      exact op_enterW (gl3_21 ps) (by rw [wanted_of rfl (gl3_15 ps) rfl s15]; rfl) (f := 14) (args := #[ccv c, .int .i64 now]) (by rw [run_call rfl enter14]; simp only [List.map_toArray, List.map_cons, List.map_nil, s19, s20]; try rfl) ((c7 w).mono (fun e w' hh => ⟨_, hh.1, hK w' (fun D' _ _ => ⟨hSw.1.later hh.2, hSw.2.1.later hh.2, hSw.2.2.1.later hh.2, Below.on hSw.2.2.2 hh.2⟩)⟩))
    | 22, _, ho =>
      obtain rfl := Option.some.inj (ho.symm.trans (gl3_22 ps))
      have s18 : a.eval (.tmp 51) = .int .i64 x1 := hs 18 51 (by rfl) rfl
      have s21 : a.eval (.tmp 54) = .int .i64 x1 := hs 21 54 (by rfl) rfl
      have s15 : a.eval (.tmp 48) = .bool true := hs 15 48 (by rfl) rfl
      exact op_valW (gl3_22 ps) (by rw [wanted_of rfl (gl3_15 ps) rfl s15]; rfl) (v := .bool true) (by unfold gl3O22 execOp; simp only [s18, s21]; first | (go_simp; done) | (go_simp; with_reducible rfl)) (hK w (fun D' _ _ => hSw))
    | 23, _, ho =>
      obtain rfl := Option.some.inj (ho.symm.trans (gl3_23 ps))
      have s15 : a.eval (.tmp 48) = .bool true := hs 15 48 (by rfl) rfl
      have s22 : a.eval (.tmp 55) = .bool true := hs 22 55 (by rfl) rfl
      exact op_valW (gl3_23 ps) rfl (v := .bool true) (by unfold gl3O23 execOp; simp only [s15, s22]; first | (go_simp; done) | (go_simp; with_reducible rfl)) (hK w (fun D' _ _ => hSw))
    | 24, _, ho =>
      obtain rfl := Option.some.inj (ho.symm.trans (gl3_24 ps))
      have s23 : a.eval (.tmp 56) = .bool true := hs 23 56 (by rfl) rfl
      exact op_valW (gl3_24 ps) rfl (v := .bool true) (by unfold gl3O24 execOp; simp only [s23]; first | (go_simp; done) | (go_simp; with_reducible rfl)) (hK w (fun D' _ _ => hSw))
    | 25, _, ho =>
      obtain rfl := Option.some.inj (ho.symm.trans (gl3_25 ps))
      have s24 : a.eval (.tmp 57) = .bool true := hs 24 57 (by rfl) rfl
      have u5 : a.eval (.tmp 5) = .pointer (some ⟨p, 0, none⟩) := (hel 5 (by decide)).trans e5
      exact op_valW (gl3_25 ps) (by rw [wanted_of rfl (gl3_24 ps) rfl s24]; rfl) (v := ccv c) (run_loadC isC26 rfl u5 hSw.1) (hK w (fun D' _ _ => hSw))
    | 26, _, ho =>
      obtain rfl := Option.some.inj (ho.symm.trans (gl3_26 ps))
      have s24 : a.eval (.tmp 57) = .bool true := hs 24 57 (by rfl) rfl
      have u3 : a.eval (.tmp 3) = .int .i64 srtt := (hel 3 (by decide)).trans e3
      exact op_valW (gl3_26 ps) (by rw [wanted_of rfl (gl3_24 ps) rfl s24]; rfl) (v := .int .i64 srtt) (by unfold gl3O26 execOp; simp only [u3]; first | (go_simp; done) | (go_simp; with_reducible rfl)) (hK w (fun D' _ _ => hSw))
    | 27, _, ho =>
      obtain rfl := Option.some.inj (ho.symm.trans (gl3_27 ps))
      have s26 : a.eval (.tmp 59) = .int .i64 srtt := hs 26 59 (by rfl) rfl
      have s24 : a.eval (.tmp 57) = .bool true := hs 24 57 (by rfl) rfl
      have hcl : IntKind.i64.wrap (-srtt) = ns := hns
      exact op_valW (gl3_27 ps) (by rw [wanted_of rfl (gl3_24 ps) rfl s24]; rfl) (v := .int .i64 ns) (by unfold gl3O27 execOp; simp only [s26]; first | (go_simp; done) | (go_simp; with_reducible rfl)) (hK w (fun D' _ _ => hSw))
    | 28, _, ho =>
      obtain rfl := Option.some.inj (ho.symm.trans (gl3_28 ps))
      have s25 : a.eval (.tmp 58) = ccv c := hs 25 58 (by rfl) rfl
      have s27 : a.eval (.tmp 60) = .int .i64 ns := hs 27 60 (by rfl) rfl
      have s24 : a.eval (.tmp 57) = .bool true := hs 24 57 (by rfl) rfl
      exact op_enterW (gl3_28 ps) (by rw [wanted_of rfl (gl3_24 ps) rfl s24]; rfl) (f := 13) (args := #[ccv c, .int .i64 ns]) (by rw [run_call rfl enter13]; simp only [List.map_toArray, List.map_cons, List.map_nil, s25, s27]; try rfl) ((c8 w).mono (fun e w' hh => ⟨_, hh.1, hK w' (fun D' _ _ => ⟨hSw.1.later hh.2, hSw.2.1.later hh.2, hSw.2.2.1.later hh.2, Below.on hSw.2.2.2 hh.2⟩)⟩))
    | 29, _, ho =>
      obtain rfl := Option.some.inj (ho.symm.trans (gl3_29 ps))
      have s24 : a.eval (.tmp 57) = .bool true := hs 24 57 (by rfl) rfl
      have u5 : a.eval (.tmp 5) = .pointer (some ⟨p, 0, none⟩) := (hel 5 (by decide)).trans e5
      exact op_valW (gl3_29 ps) (by rw [wanted_of rfl (gl3_24 ps) rfl s24]; rfl) (v := ccv c) (run_loadC isC26 rfl u5 hSw.1) (hK w (fun D' _ _ => hSw))
    | 30, _, ho =>
      obtain rfl := Option.some.inj (ho.symm.trans (gl3_30 ps))
      have s24 : a.eval (.tmp 57) = .bool true := hs 24 57 (by rfl) rfl
      have u3 : a.eval (.tmp 3) = .int .i64 srtt := (hel 3 (by decide)).trans e3
      exact op_valW (gl3_30 ps) (by rw [wanted_of rfl (gl3_24 ps) rfl s24]; rfl) (v := .int .i64 srtt) (by unfold gl3O30 execOp; simp only [u3]; first | (go_simp; done) | (go_simp; with_reducible rfl)) (hK w (fun D' _ _ => hSw))
    | 31, _, ho =>
      obtain rfl := Option.some.inj (ho.symm.trans (gl3_31 ps))
      have s30 : a.eval (.tmp 63) = .int .i64 srtt := hs 30 63 (by rfl) rfl
      have s24 : a.eval (.tmp 57) = .bool true := hs 24 57 (by rfl) rfl
      have hcl : IntKind.i64.wrap (-srtt) = ns := hns
      exact op_valW (gl3_31 ps) (by rw [wanted_of rfl (gl3_24 ps) rfl s24]; rfl) (v := .int .i64 ns) (by unfold gl3O31 execOp; simp only [s30]; first | (go_simp; done) | (go_simp; with_reducible rfl)) (hK w (fun D' _ _ => hSw))
    | 32, _, ho =>
      obtain rfl := Option.some.inj (ho.symm.trans (gl3_32 ps))
      have s29 : a.eval (.tmp 62) = ccv c := hs 29 62 (by rfl) rfl
      have s31 : a.eval (.tmp 64) = .int .i64 ns := hs 31 64 (by rfl) rfl
      have s24 : a.eval (.tmp 57) = .bool true := hs 24 57 (by rfl) rfl
      exact op_enterW (gl3_32 ps) (by rw [wanted_of rfl (gl3_24 ps) rfl s24]; rfl) (f := 14) (args := #[ccv c, .int .i64 ns]) (by rw [run_call rfl enter14]; simp only [List.map_toArray, List.map_cons, List.map_nil, s29, s31]; try rfl) ((c9 w).mono (fun e w' hh => ⟨_, hh.1, hK w' (fun D' _ _ => ⟨hSw.1.later hh.2, hSw.2.1.later hh.2, hSw.2.2.1.later hh.2, Below.on hSw.2.2.2 hh.2⟩)⟩))
    | 33, _, ho =>
      obtain rfl := Option.some.inj (ho.symm.trans (gl3_33 ps))
      have s28 : a.eval (.tmp 61) = .int .i64 x2 := hs 28 61 (by rfl) rfl
      have s32 : a.eval (.tmp 65) = .int .i64 x2 := hs 32 65 (by rfl) rfl
      have s24 : a.eval (.tmp 57) = .bool true := hs 24 57 (by rfl) rfl
      exact op_valW (gl3_33 ps) (by rw [wanted_of rfl (gl3_24 ps) rfl s24]; rfl) (v := .bool true) (by unfold gl3O33 execOp; simp only [s28, s32]; first | (go_simp; done) | (go_simp; with_reducible rfl)) (hK w (fun D' _ _ => hSw))
    | 34, _, ho =>
      obtain rfl := Option.some.inj (ho.symm.trans (gl3_34 ps))
      have s24 : a.eval (.tmp 57) = .bool true := hs 24 57 (by rfl) rfl
      have s33 : a.eval (.tmp 66) = .bool true := hs 33 66 (by rfl) rfl
      exact op_valW (gl3_34 ps) rfl (v := .bool true) (by unfold gl3O34 execOp; simp only [s24, s33]; first | (go_simp; done) | (go_simp; with_reducible rfl)) (hK w (fun D' _ _ => hSw))
    | 35, _, ho =>
      obtain rfl := Option.some.inj (ho.symm.trans (gl3_35 ps))
      have s34 : a.eval (.tmp 67) = .bool true := hs 34 67 (by rfl) rfl
      exact op_valW (gl3_35 ps) rfl (v := .bool true) (by unfold gl3O35 execOp; simp only [s34]; first | (go_simp; done) | (go_simp; with_reducible rfl)) (hK w (fun D' _ _ => hSw))
    | 36, _, ho =>
      obtain rfl := Option.some.inj (ho.symm.trans (gl3_36 ps))
      have s35 : a.eval (.tmp 68) = .bool true := hs 35 68 (by rfl) rfl
      exact op_enterW (gl3_36 ps) (by rw [wanted_of rfl (gl3_35 ps) rfl s35]; rfl) (f := 15) (args := #[]) (by rw [run_call rfl enter15]; simp only [List.map_toArray, List.map_nil]; try rfl) ((c10 w).mono (fun e w' hh => ⟨_, hh.1, hK w' (fun D' _ _ => ⟨hSw.1.later hh.2, hSw.2.1.later hh.2, hSw.2.2.1.later hh.2, Below.on hSw.2.2.2 hh.2⟩)⟩))
    | 37, _, ho =>
      obtain rfl := Option.some.inj (ho.symm.trans (gl3_37 ps))
      have s35 : a.eval (.tmp 68) = .bool true := hs 35 68 (by rfl) rfl
      have s36 : a.eval (.tmp 69) = .bool true := hs 36 69 (by rfl) rfl
      exact op_valW (gl3_37 ps) rfl (v := .bool true) (by unfold gl3O37 execOp; simp only [s35, s36]; first | (go_simp; done) | (go_simp; with_reducible rfl)) (hK w (fun D' _ _ => hSw))
    | 38, _, ho =>
      obtain rfl := Option.some.inj (ho.symm.trans (gl3_38 ps))
      have s37 : a.eval (.tmp 70) = .bool true := hs 37 70 (by rfl) rfl
      exact op_valW (gl3_38 ps) rfl (v := .bool true) (by unfold gl3O38 execOp; simp only [s37]; first | (go_simp; done) | (go_simp; with_reducible rfl)) (hK w (fun D' _ _ => hSw))
    | iq + 39, hin, _ => exact absurd hin (by omega)

set_option maxRecDepth 100000 in
set_option maxHeartbeats 4000000 in
theorem grows_in (c A B : Cc) (n now srtt ns er kk x1 x2 : Int) (i : Bool) (hns : IntKind.i64.wrap (-srtt) = ns) (c1 : ∀ W, Calls Try.prog 8 #[ccv c, .int .i64 n, .int .i64 now, .int .i64 srtt, .bool i] W fun e w' => e = .returned (.tuple #[ccv A, .int .i64 er]) ∧ Below W.heap.size W w')(c2 : ∀ W, Calls Try.prog 9 #[ccv c, .int .i64 n, .int .i64 now, .int .i64 srtt, .bool i] W fun e w' => e = .returned (.tuple #[ccv B, .int .i64 er]) ∧ Below W.heap.size W w')(c3 : ∀ W, Calls Try.prog 10 #[ccv A, ccv B] W fun e w' => e = .returned (.bool true) ∧ Below W.heap.size W w')(c4 : ∀ W, Calls Try.prog 11 #[ccv c] W fun e w' => e = .returned (.int .i64 kk) ∧ Below W.heap.size W w')(c5 : ∀ W, Calls Try.prog 12 #[ccv c] W fun e w' => e = .returned (.int .i64 kk) ∧ Below W.heap.size W w')(c6 : ∀ W, Calls Try.prog 13 #[ccv c, .int .i64 now] W fun e w' => e = .returned (.int .i64 x1) ∧ Below W.heap.size W w')(c7 : ∀ W, Calls Try.prog 14 #[ccv c, .int .i64 now] W fun e w' => e = .returned (.int .i64 x1) ∧ Below W.heap.size W w')(c8 : ∀ W, Calls Try.prog 13 #[ccv c, .int .i64 ns] W fun e w' => e = .returned (.int .i64 x2) ∧ Below W.heap.size W w')(c9 : ∀ W, Calls Try.prog 14 #[ccv c, .int .i64 ns] W fun e w' => e = .returned (.int .i64 x2) ∧ Below W.heap.size W w') (w : World) : Calls Try.prog 3 #[ccv c, .int .i64 n, .int .i64 now, .int .i64 srtt, .bool i] w fun e w' => e = .returned (.bool true) ∧ Below w.heap.size w w' := by
  go_enter Try.func3, Try.ntmps3
  go_wp2_with (first | (refine wpC_box rfl rfl rfl ?_))
  intro X1 p HN
  have HX1 : Hid (Below w.heap.size w X1 ∧ Box X1 p 26 (ccL c) ∧ w.heap.size ≤ p ∧ True) := by
    have hb := Below.refl w.heap.size w
    obtain ⟨hg, hb2, bn⟩ := HN.out
    have hz := hb.size
    exact ⟨Below.on hb hb2, bn, by omega, trivial⟩
  clear HN 
  go_wp2_with (first | (refine wpC_load rfl isC26 rfl rfl (HX1.out.2.1) ?_) | fail)
  refine (c1 _).mono ?_
  rintro e w2 ⟨rfl, hB⟩
  have HX2 : Hid (Below w.heap.size w w2 ∧ Box w2 p 26 (ccL c) ∧ w.heap.size ≤ p ∧ True) := by
    obtain ⟨hb, b0, l0, _⟩ := HX1.out
    exact ⟨Below.on hb hB, b0.later hB, l0, trivial⟩
  clear hB HX1
  go_wp2_with (first | (refine wpC_alloc rfl rfl zero26 ?_))
  intro X3 ga HN
  have HX3 : Hid (Below w.heap.size w X3 ∧ Box X3 p 26 (ccL c) ∧ Box X3 ga 26 (ccL zC) ∧ w.heap.size ≤ p ∧ p < ga ∧ True) := by
    obtain ⟨hb, b0, l0, _⟩ := HX2.out
    obtain ⟨hg, hb2, bn⟩ := HN.out
    have z0 := b0.lt
    exact ⟨Below.on hb hb2, b0.later hb2, bn, l0, by omega, trivial⟩
  clear HN HX2
  go_wp2_with (first | (refine wpC_store rfl isC26 rfl rfl rfl rfl (HX3.out.2.2.1) rfl ?_))
  intro X4 HN
  have HX4 : Hid (Below w.heap.size w X4 ∧ Box X4 p 26 (ccL c) ∧ Box X4 ga 26 (ccL A) ∧ w.heap.size ≤ p ∧ p < ga ∧ True) := by
    obtain ⟨hb, b0, b1, l0, l1, _⟩ := HX3.out
    obtain ⟨st, bn⟩ := HN.out
    exact ⟨st.below _ _ (by omega) hb, b0.sto st (by omega), bn, l0, l1, trivial⟩
  clear HN HX3
  go_wp2_with (first | (refine wpC_load rfl isC26 rfl rfl (HX4.out.2.1) ?_) | fail)
  refine (c2 _).mono ?_
  rintro e w5 ⟨rfl, hB⟩
  have HX5 : Hid (Below w.heap.size w w5 ∧ Box w5 p 26 (ccL c) ∧ Box w5 ga 26 (ccL A) ∧ w.heap.size ≤ p ∧ p < ga ∧ True) := by
    obtain ⟨hb, b0, b1, l0, l1, _⟩ := HX4.out
    exact ⟨Below.on hb hB, b0.later hB, b1.later hB, l0, l1, trivial⟩
  clear hB HX4
  go_wp2_with (first | (refine wpC_alloc rfl rfl zero26 ?_))
  intro X6 gb HN
  have HX6 : Hid (Below w.heap.size w X6 ∧ Box X6 p 26 (ccL c) ∧ Box X6 ga 26 (ccL A) ∧ Box X6 gb 26 (ccL zC) ∧ w.heap.size ≤ p ∧ p < ga ∧ ga < gb ∧ True) := by
    obtain ⟨hb, b0, b1, l0, l1, _⟩ := HX5.out
    obtain ⟨hg, hb2, bn⟩ := HN.out
    have z0 := b0.lt
    have z1 := b1.lt
    exact ⟨Below.on hb hb2, b0.later hb2, b1.later hb2, bn, l0, l1, by omega, trivial⟩
  clear HN HX5
  go_wp2_with (first | (refine wpC_store rfl isC26 rfl rfl rfl rfl (HX6.out.2.2.2.1) rfl ?_))
  intro X7 HN
  have HX7 : Hid (Below w.heap.size w X7 ∧ Box X7 p 26 (ccL c) ∧ Box X7 ga 26 (ccL A) ∧ Box X7 gb 26 (ccL B) ∧ w.heap.size ≤ p ∧ p < ga ∧ ga < gb ∧ True) := by
    obtain ⟨hb, b0, b1, b2, l0, l1, l2, _⟩ := HX6.out
    obtain ⟨st, bn⟩ := HN.out
    exact ⟨st.below _ _ (by omega) hb, b0.sto st (by omega), b1.sto st (by omega), bn, l0, l1, l2, trivial⟩
  clear HN HX6
  go_upto_region 3 with fail
  refine gl3_reg (by rfl) c A B p ga gb now srtt ns er kk x1 x2 rfl rfl rfl rfl rfl rfl rfl (HX7.out.2.1) (HX7.out.2.2.1) (HX7.out.2.2.2.1) hns c3 c4 c5 c6 c7 c8 c9 kheads_any ?_
  intro T X8 hT hS
  have hbl : Below X7.heap.size X7 X8 := hS.2.2.2
  clear hS
  simp only [Act.put, List.setIfInBounds_toArray, List.set_cons_zero, List.set_cons_succ]
  simp only [hT]
  have HX8 : Hid (Below w.heap.size w X8 ∧ Box X8 p 26 (ccL c) ∧ Box X8 ga 26 (ccL A) ∧ Box X8 gb 26 (ccL B) ∧ w.heap.size ≤ p ∧ p < ga ∧ ga < gb ∧ True) := by
    obtain ⟨hb, b0, b1, b2, l0, l1, l2, _⟩ := HX7.out
    exact ⟨Below.on hb hbl, b0.later hbl, b1.later hbl, b2.later hbl, l0, l1, l2, trivial⟩
  clear hbl hT HX7
  go_wp2_with fail
  go_ret
  exact ⟨rfl, HX8.out.1⟩

theorem ack_bare (c : Cc) (n now srtt : Int) (i : Bool) (k : kOk c = true) : ∃ e : Cc, ackK (bare c) n now srtt i = bare e ∧ ackK c n now srtt i = { e with ba := c.ba, bn := 0, bc := c.bc } := by
  obtain ⟨_, _, _, h4⟩ := kok_out k
  have hb : c.bn = 0 := h4.2.1
  have hc : c = { c with ba := c.ba, bn := 0, bc := c.bc } := by
    obtain ⟨kd, ms, cw, ss, ac, wm, ep, ck, we, st, md, ba, bn, bc, mr, ma, rd, na, fu, fc, ph, pa, da, pr⟩ := c
    have : bn = 0 := hb
    subst this
    rfl
  refine ⟨ackK c n now srtt i, ?_, ?_⟩
  · unfold ackK groE epoE begE
    show (if i = true then _ else if c.cw < c.ss then _ else stpE (if c.ep = -1 then if c.cw < c.wm then _ else _ else _) n _) = _
    split
    · rfl
    · split
      · rfl
      · by_cases he : c.ep = -1
        · rw [if_pos he, if_pos (show (bare c).ep = -1 from he), if_pos he]
          by_cases hw : c.cw < c.wm
          · rw [if_pos hw, if_pos (show (bare c).cw < (bare c).wm from hw), if_pos hw]; rfl
          · rw [if_neg hw, if_neg (show ¬ (bare c).cw < (bare c).wm from hw), if_neg hw]; rfl
        · rw [if_neg he, if_neg (show ¬ (bare c).ep = -1 from he), if_neg he]; rfl
  · have key : ∀ d : Cc, d.ba = c.ba → d.bn = 0 → d.bc = c.bc → d = { d with ba := c.ba, bn := 0, bc := c.bc } := by
      intro d h1 h2 h3
      obtain ⟨kd, ms, cw, ss, ac, wm, ep, ck, we, st, md, ba, bn, bc, mr, ma, rd, na, fu, fc, ph, pa, da, pr⟩ := d
      have h1 : ba = c.ba := h1
      have h2 : bn = 0 := h2
      have h3 : bc = c.bc := h3
      subst h1; subst h2; subst h3
      rfl
    have hk : (ackK c n now srtt i).ba = c.ba ∧ (ackK c n now srtt i).bn = c.bn ∧ (ackK c n now srtt i).bc = c.bc := by
      unfold ackK groE epoE begE stpE
      split
      · exact ⟨rfl, rfl, rfl⟩
      · split
        · exact ⟨rfl, rfl, rfl⟩
        · split
          · split <;> exact ⟨rfl, rfl, rfl⟩
          · exact ⟨rfl, rfl, rfl⟩
    exact key _ hk.1 (hk.2.1.trans hb) hk.2.2
theorem wrap_i64' (x : Int) : I64 (IntKind.i64.wrap x) := by rw [IntKind.wrap_i64]; unfold I64; omega
theorem grows_walk (c : Cc) (n now srtt : Int) (i : Bool) (w : World) (hI : CcI c) (hn : I64 n) (ht : I64 now) (hs : I64 srtt) : Calls Try.prog 3 #[ccv c, .int .i64 n, .int .i64 now, .int .i64 srtt, .bool i] w fun e w' => e = .returned (.bool true) ∧ Below w.heap.size w w' := by
  have g4 := fun W => kchk_is c hI W
  have g5 := fun W => rchk_is c W
  have g6 := fun W => cur_is c now hI ht W
  have g7 := fun W => rcur_is c now hI ht W
  have g8 := fun W => cur_is c (IntKind.i64.wrap (-srtt)) hI (wrap_i64' _) W
  have g9 := fun W => rcur_is c (IntKind.i64.wrap (-srtt)) hI (wrap_i64' _) W
  rcases akK_cases c n now srtt with ⟨k, k2, k3, k4, _⟩ | ⟨k, _⟩
  · obtain ⟨e, e1, e2⟩ := ack_bare c n now srtt i k
    have a1 := fun W => kack_yes c n now srtt i k k2 k3 k4 W
    have a2 := fun W => rack_yes c n now srtt i k k2 k3 k4 W
    rw [e1] at a1
    rw [e2] at a2
    exact grows_in c _ _ n now srtt _ _ _ _ _ i rfl a1 a2 (fun W => ksame_is e c.ba c.bc W) g4 g5 g6 g7 g8 g9 w
  · exact grows_in c zC zC n now srtt _ _ _ _ _ i rfl (fun W => kack_no c n now srtt i hI k W) (fun W => rack_no' c n now srtt i hI k W) (fun W => ksame_is zC none 0 W) g4 g5 g6 g7 g8 g9 w
end Go.Proofs.Ytikcjdoeoghoeaa
