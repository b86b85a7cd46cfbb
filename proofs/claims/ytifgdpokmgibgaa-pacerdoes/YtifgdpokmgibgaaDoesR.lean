/- PacerDoes: its region that draws its order. -/
import Derived.Test.YtifgdpokmgibgaaEq
import Derived.Test.YtifgdpokmgibgaaDets
namespace Go.Proofs.Ytifgdpokmgibgaa
open Go.ChangeShapes Go.WideShapes Go.ChangeAt Go.RowKit Go.Shelf
set_option linter.unusedVariables false
set_option linter.unusedSimpArgs false
attribute [local go_sem] Oper.semAt_some

def do7O0 (ps : String) : Oper := { dst := some 63, op := .load 23 (.tmp 7), type := 23, pos := ps, after := #[], guard := none }
def do7O1 (ps : String) : Oper := { dst := some 64, op := .load 23 (.tmp 9), type := 23, pos := ps, after := #[], guard := none }
def do7O2 (ps : String) : Oper := { dst := some 65, op := .binOp .neq 23 (.tmp 63) (.tmp 64) 23, type := 4, pos := ps, after := #[{ on := 0, ground := .data }, { on := 1, ground := .data }], guard := none }
def do7O3 (ps : String) : Oper := { dst := some 66, op := .move (.tmp 65), type := 4, pos := ps, after := #[{ on := 2, ground := .data }], guard := none }
def do7O4 (ps : String) : Oper := { dst := some 67, op := .move (.tmp 8), type := 24, pos := ps, after := #[{ on := 3, ground := .guard }], guard := some (3, false) }
def do7O5 (ps : String) : Oper := { dst := some 68, op := .move (.tmp 10), type := 3, pos := ps, after := #[{ on := 3, ground := .guard }], guard := some (3, false) }
def do7O6 (ps : String) : Oper := { dst := some 69, op := .binOp .neq 3 (.tmp 67) (.tmp 68) 3, type := 4, pos := ps, after := #[{ on := 4, ground := .data }, { on := 5, ground := .data }, { on := 3, ground := .guard }], guard := some (3, false) }
def do7O7 (ps : String) : Oper := { dst := some 70, op := .pick (.tmp 66) (.const (.bool true)) (.tmp 69), type := 4, pos := ps, after := #[{ on := 3, ground := .data }, { on := 6, ground := .data }], guard := none }
def do7O8 (ps : String) : Oper := { dst := some 71, op := .move (.tmp 70), type := 4, pos := ps, after := #[{ on := 7, ground := .data }, { on := 3, ground := .chain }], guard := none }
def do7O9 (ps : String) : Oper := { dst := some 72, op := .load 23 (.tmp 11), type := 23, pos := ps, after := #[{ on := 8, ground := .guard }], guard := some (8, false) }
def do7O10 (ps : String) : Oper := { dst := some 73, op := .load 23 (.tmp 13), type := 23, pos := ps, after := #[{ on := 8, ground := .guard }], guard := some (8, false) }
def do7O11 (ps : String) : Oper := { dst := some 74, op := .binOp .neq 23 (.tmp 72) (.tmp 73) 23, type := 4, pos := ps, after := #[{ on := 9, ground := .data }, { on := 10, ground := .data }, { on := 8, ground := .guard }], guard := some (8, false) }
def do7O12 (ps : String) : Oper := { dst := some 75, op := .pick (.tmp 71) (.const (.bool true)) (.tmp 74), type := 4, pos := ps, after := #[{ on := 8, ground := .data }, { on := 11, ground := .data }], guard := none }
def do7O13 (ps : String) : Oper := { dst := some 76, op := .move (.tmp 75), type := 4, pos := ps, after := #[{ on := 12, ground := .data }, { on := 8, ground := .chain }], guard := none }
def do7O14 (ps : String) : Oper := { dst := some 77, op := .move (.tmp 12), type := 24, pos := ps, after := #[{ on := 13, ground := .guard }], guard := some (13, false) }
def do7O15 (ps : String) : Oper := { dst := some 78, op := .move (.tmp 14), type := 3, pos := ps, after := #[{ on := 13, ground := .guard }], guard := some (13, false) }
def do7O16 (ps : String) : Oper := { dst := some 79, op := .binOp .neq 3 (.tmp 77) (.tmp 78) 3, type := 4, pos := ps, after := #[{ on := 14, ground := .data }, { on := 15, ground := .data }, { on := 13, ground := .guard }], guard := some (13, false) }
def do7O17 (ps : String) : Oper := { dst := some 80, op := .pick (.tmp 76) (.const (.bool true)) (.tmp 79), type := 4, pos := ps, after := #[{ on := 13, ground := .data }, { on := 16, ground := .data }], guard := none }
def do7O18 (ps : String) : Oper := { dst := some 81, op := .move (.tmp 80), type := 4, pos := ps, after := #[{ on := 17, ground := .data }, { on := 13, ground := .chain }], guard := none }
def do7O19 (ps : String) : Oper := { dst := some 82, op := .move (.tmp 15), type := 3, pos := ps, after := #[{ on := 18, ground := .guard }], guard := some (18, false) }
def do7O20 (ps : String) : Oper := { dst := some 83, op := .move (.tmp 17), type := 3, pos := ps, after := #[{ on := 18, ground := .guard }], guard := some (18, false) }
def do7O21 (ps : String) : Oper := { dst := some 84, op := .binOp .neq 3 (.tmp 82) (.tmp 83) 3, type := 4, pos := ps, after := #[{ on := 19, ground := .data }, { on := 20, ground := .data }, { on := 18, ground := .guard }], guard := some (18, false) }
def do7O22 (ps : String) : Oper := { dst := some 85, op := .pick (.tmp 81) (.const (.bool true)) (.tmp 84), type := 4, pos := ps, after := #[{ on := 18, ground := .data }, { on := 21, ground := .data }], guard := none }
def do7O23 (ps : String) : Oper := { dst := some 86, op := .move (.tmp 85), type := 4, pos := ps, after := #[{ on := 22, ground := .data }, { on := 18, ground := .chain }], guard := none }
def do7O24 (ps : String) : Oper := { dst := some 87, op := .move (.tmp 16), type := 24, pos := ps, after := #[{ on := 23, ground := .guard }], guard := some (23, false) }
def do7O25 (ps : String) : Oper := { dst := some 88, op := .move (.tmp 18), type := 3, pos := ps, after := #[{ on := 23, ground := .guard }], guard := some (23, false) }
def do7O26 (ps : String) : Oper := { dst := some 89, op := .binOp .neq 3 (.tmp 87) (.tmp 88) 3, type := 4, pos := ps, after := #[{ on := 24, ground := .data }, { on := 25, ground := .data }, { on := 23, ground := .guard }], guard := some (23, false) }
def do7O27 (ps : String) : Oper := { dst := some 90, op := .pick (.tmp 86) (.const (.bool true)) (.tmp 89), type := 4, pos := ps, after := #[{ on := 23, ground := .data }, { on := 26, ground := .data }], guard := none }
def do7O28 (ps : String) : Oper := { dst := some 91, op := .move (.tmp 90), type := 4, pos := ps, after := #[{ on := 27, ground := .data }, { on := 23, ground := .chain }], guard := none }
def do7O29 (ps : String) : Oper := { dst := some 92, op := .load 23 (.tmp 3), type := 23, pos := ps, after := #[{ on := 28, ground := .guard }], guard := some (28, false) }
def do7O30 (ps : String) : Oper := { dst := some 93, op := .move (.tmp 1), type := 3, pos := ps, after := #[{ on := 28, ground := .guard }], guard := some (28, false) }
def do7O31 (ps : String) : Oper := { dst := some 94, op := .call { callee := .value (.func 15), args := #[.tmp 92, .tmp 93], argTypes := #[23, 3] }, type := 4, pos := ps, after := #[{ on := 29, ground := .data }, { on := 30, ground := .data }, { on := 28, ground := .chain }, { on := 28, ground := .guard }], guard := some (28, false) }
def do7O32 (ps : String) : Oper := { dst := some 95, op := .load 23 (.tmp 3), type := 23, pos := ps, after := #[{ on := 28, ground := .guard }], guard := some (28, false) }
def do7O33 (ps : String) : Oper := { dst := some 96, op := .move (.tmp 1), type := 3, pos := ps, after := #[{ on := 28, ground := .guard }], guard := some (28, false) }
def do7O34 (ps : String) : Oper := { dst := some 97, op := .call { callee := .value (.func 16), args := #[.tmp 95, .tmp 96], argTypes := #[23, 3] }, type := 4, pos := ps, after := #[{ on := 32, ground := .data }, { on := 33, ground := .data }, { on := 31, ground := .chain }, { on := 28, ground := .guard }], guard := some (28, false) }
def do7O35 (ps : String) : Oper := { dst := some 98, op := .binOp .neq 4 (.tmp 94) (.tmp 97) 4, type := 4, pos := ps, after := #[{ on := 31, ground := .data }, { on := 34, ground := .data }, { on := 28, ground := .guard }], guard := some (28, false) }
def do7O36 (ps : String) : Oper := { dst := some 99, op := .pick (.tmp 91) (.const (.bool true)) (.tmp 98), type := 4, pos := ps, after := #[{ on := 28, ground := .data }, { on := 35, ground := .data }], guard := none }
def do7O37 (ps : String) : Oper := { dst := some 100, op := .move (.tmp 99), type := 4, pos := ps, after := #[{ on := 36, ground := .data }, { on := 34, ground := .chain }], guard := none }
def do7O38 (ps : String) : Oper := { dst := some 101, op := .load 23 (.tmp 3), type := 23, pos := ps, after := #[{ on := 37, ground := .guard }], guard := some (37, false) }
def do7O39 (ps : String) : Oper := { dst := some 102, op := .call { callee := .value (.func 17), args := #[.tmp 101], argTypes := #[23] }, type := 24, pos := ps, after := #[{ on := 38, ground := .data }, { on := 37, ground := .chain }, { on := 37, ground := .guard }], guard := some (37, false) }
def do7O40 (ps : String) : Oper := { dst := some 103, op := .load 23 (.tmp 3), type := 23, pos := ps, after := #[{ on := 37, ground := .guard }], guard := some (37, false) }
def do7O41 (ps : String) : Oper := { dst := some 104, op := .call { callee := .value (.func 18), args := #[.tmp 103], argTypes := #[23] }, type := 3, pos := ps, after := #[{ on := 40, ground := .data }, { on := 39, ground := .chain }, { on := 37, ground := .guard }], guard := some (37, false) }
def do7O42 (ps : String) : Oper := { dst := some 105, op := .binOp .neq 3 (.tmp 102) (.tmp 104) 3, type := 4, pos := ps, after := #[{ on := 39, ground := .data }, { on := 41, ground := .data }, { on := 37, ground := .guard }], guard := some (37, false) }
def do7O43 (ps : String) : Oper := { dst := some 106, op := .pick (.tmp 100) (.const (.bool true)) (.tmp 105), type := 4, pos := ps, after := #[{ on := 37, ground := .data }, { on := 42, ground := .data }], guard := none }
def do7 (ps : String) : Array Oper := #[do7O0 ps, do7O1 ps, do7O2 ps, do7O3 ps, do7O4 ps, do7O5 ps, do7O6 ps, do7O7 ps, do7O8 ps, do7O9 ps, do7O10 ps, do7O11 ps, do7O12 ps, do7O13 ps, do7O14 ps, do7O15 ps, do7O16 ps, do7O17 ps, do7O18 ps, do7O19 ps, do7O20 ps, do7O21 ps, do7O22 ps, do7O23 ps, do7O24 ps, do7O25 ps, do7O26 ps, do7O27 ps, do7O28 ps, do7O29 ps, do7O30 ps, do7O31 ps, do7O32 ps, do7O33 ps, do7O34 ps, do7O35 ps, do7O36 ps, do7O37 ps, do7O38 ps, do7O39 ps, do7O40 ps, do7O41 ps, do7O42 ps, do7O43 ps]
theorem do7_0 (ps : String) : (do7 ps)[0]? = some (do7O0 ps) := rfl
theorem do7_1 (ps : String) : (do7 ps)[1]? = some (do7O1 ps) := rfl
theorem do7_2 (ps : String) : (do7 ps)[2]? = some (do7O2 ps) := rfl
theorem do7_3 (ps : String) : (do7 ps)[3]? = some (do7O3 ps) := rfl
theorem do7_4 (ps : String) : (do7 ps)[4]? = some (do7O4 ps) := rfl
theorem do7_5 (ps : String) : (do7 ps)[5]? = some (do7O5 ps) := rfl
theorem do7_6 (ps : String) : (do7 ps)[6]? = some (do7O6 ps) := rfl
theorem do7_7 (ps : String) : (do7 ps)[7]? = some (do7O7 ps) := rfl
theorem do7_8 (ps : String) : (do7 ps)[8]? = some (do7O8 ps) := rfl
theorem do7_9 (ps : String) : (do7 ps)[9]? = some (do7O9 ps) := rfl
theorem do7_10 (ps : String) : (do7 ps)[10]? = some (do7O10 ps) := rfl
theorem do7_11 (ps : String) : (do7 ps)[11]? = some (do7O11 ps) := rfl
theorem do7_12 (ps : String) : (do7 ps)[12]? = some (do7O12 ps) := rfl
theorem do7_13 (ps : String) : (do7 ps)[13]? = some (do7O13 ps) := rfl
theorem do7_14 (ps : String) : (do7 ps)[14]? = some (do7O14 ps) := rfl
theorem do7_15 (ps : String) : (do7 ps)[15]? = some (do7O15 ps) := rfl
theorem do7_16 (ps : String) : (do7 ps)[16]? = some (do7O16 ps) := rfl
theorem do7_17 (ps : String) : (do7 ps)[17]? = some (do7O17 ps) := rfl
theorem do7_18 (ps : String) : (do7 ps)[18]? = some (do7O18 ps) := rfl
theorem do7_19 (ps : String) : (do7 ps)[19]? = some (do7O19 ps) := rfl
theorem do7_20 (ps : String) : (do7 ps)[20]? = some (do7O20 ps) := rfl
theorem do7_21 (ps : String) : (do7 ps)[21]? = some (do7O21 ps) := rfl
theorem do7_22 (ps : String) : (do7 ps)[22]? = some (do7O22 ps) := rfl
theorem do7_23 (ps : String) : (do7 ps)[23]? = some (do7O23 ps) := rfl
theorem do7_24 (ps : String) : (do7 ps)[24]? = some (do7O24 ps) := rfl
theorem do7_25 (ps : String) : (do7 ps)[25]? = some (do7O25 ps) := rfl
theorem do7_26 (ps : String) : (do7 ps)[26]? = some (do7O26 ps) := rfl
theorem do7_27 (ps : String) : (do7 ps)[27]? = some (do7O27 ps) := rfl
theorem do7_28 (ps : String) : (do7 ps)[28]? = some (do7O28 ps) := rfl
theorem do7_29 (ps : String) : (do7 ps)[29]? = some (do7O29 ps) := rfl
theorem do7_30 (ps : String) : (do7 ps)[30]? = some (do7O30 ps) := rfl
theorem do7_31 (ps : String) : (do7 ps)[31]? = some (do7O31 ps) := rfl
theorem do7_32 (ps : String) : (do7 ps)[32]? = some (do7O32 ps) := rfl
theorem do7_33 (ps : String) : (do7 ps)[33]? = some (do7O33 ps) := rfl
theorem do7_34 (ps : String) : (do7 ps)[34]? = some (do7O34 ps) := rfl
theorem do7_35 (ps : String) : (do7 ps)[35]? = some (do7O35 ps) := rfl
theorem do7_36 (ps : String) : (do7 ps)[36]? = some (do7O36 ps) := rfl
theorem do7_37 (ps : String) : (do7 ps)[37]? = some (do7O37 ps) := rfl
theorem do7_38 (ps : String) : (do7 ps)[38]? = some (do7O38 ps) := rfl
theorem do7_39 (ps : String) : (do7 ps)[39]? = some (do7O39 ps) := rfl
theorem do7_40 (ps : String) : (do7 ps)[40]? = some (do7O40 ps) := rfl
theorem do7_41 (ps : String) : (do7 ps)[41]? = some (do7O41 ps) := rfl
theorem do7_42 (ps : String) : (do7 ps)[42]? = some (do7O42 ps) := rfl
theorem do7_43 (ps : String) : (do7 ps)[43]? = some (do7O43 ps) := rfl
def do7D : Nat → Option Tmp
  | 0 => some 63
  | 1 => some 64
  | 2 => some 65
  | 3 => some 66
  | 4 => some 67
  | 5 => some 68
  | 6 => some 69
  | 7 => some 70
  | 8 => some 71
  | 9 => some 72
  | 10 => some 73
  | 11 => some 74
  | 12 => some 75
  | 13 => some 76
  | 14 => some 77
  | 15 => some 78
  | 16 => some 79
  | 17 => some 80
  | 18 => some 81
  | 19 => some 82
  | 20 => some 83
  | 21 => some 84
  | 22 => some 85
  | 23 => some 86
  | 24 => some 87
  | 25 => some 88
  | 26 => some 89
  | 27 => some 90
  | 28 => some 91
  | 29 => some 92
  | 30 => some 93
  | 31 => some 94
  | 32 => some 95
  | 33 => some 96
  | 34 => some 97
  | 35 => some 98
  | 36 => some 99
  | 37 => some 100
  | 38 => some 101
  | 39 => some 102
  | 40 => some 103
  | 41 => some 104
  | 42 => some 105
  | 43 => some 106
  | _ => none
def do7T (p fa ta : Pc) (n r1 r2 r3 x ck : Int) (mb : Bool) (gp ga gb gc gd B0 : Nat) (WW : World) : Nat → Value
  | 0 => agv (pcL fa)
  | 1 => agv (pcL fa)
  | 2 => .bool false
  | 3 => .bool false
  | 4 => .int .i64 r1
  | 5 => .int .i64 r1
  | 6 => .bool false
  | 7 => .bool false
  | 8 => .bool false
  | 9 => agv (pcL ta)
  | 10 => agv (pcL ta)
  | 11 => .bool false
  | 12 => .bool false
  | 13 => .bool false
  | 14 => .int .i64 r2
  | 15 => .int .i64 r2
  | 16 => .bool false
  | 17 => .bool false
  | 18 => .bool false
  | 19 => .int .i64 x
  | 20 => .int .i64 x
  | 21 => .bool false
  | 22 => .bool false
  | 23 => .bool false
  | 24 => .int .i64 r3
  | 25 => .int .i64 r3
  | 26 => .bool false
  | 27 => .bool false
  | 28 => .bool false
  | 29 => agv (pcL p)
  | 30 => .int .i64 n
  | 31 => .bool mb
  | 32 => agv (pcL p)
  | 33 => .int .i64 n
  | 34 => .bool mb
  | 35 => .bool false
  | 36 => .bool false
  | 37 => .bool false
  | 38 => agv (pcL p)
  | 39 => .int .i64 ck
  | 40 => agv (pcL p)
  | 41 => .int .i64 ck
  | 42 => .bool false
  | 43 => .bool false
  | _ => undef
set_option maxRecDepth 100000 in
set_option maxHeartbeats 4000000 in
theorem do7_reg {ps : String} {Q : Exit → Act → World → Prop} {a0 : Act} {W0 : World} (sz : a0.tmps.size = 154) (p fa ta : Pc) (n r1 r2 r3 x ck : Int) (mb : Bool) (gp ga gb gc gd B0 : Nat) (WW : World)
    (e3 : a0.eval (.tmp 3) = .pointer (some ⟨gp, 0, none⟩)) (e7 : a0.eval (.tmp 7) = .pointer (some ⟨ga, 0, none⟩)) (e9 : a0.eval (.tmp 9) = .pointer (some ⟨gb, 0, none⟩)) (e11 : a0.eval (.tmp 11) = .pointer (some ⟨gc, 0, none⟩)) (e13 : a0.eval (.tmp 13) = .pointer (some ⟨gd, 0, none⟩)) (e1 : a0.eval (.tmp 1) = .int .i64 n) (e8 : a0.eval (.tmp 8) = .int .i64 r1) (e10 : a0.eval (.tmp 10) = .int .i64 r1) (e12 : a0.eval (.tmp 12) = .int .i64 r2) (e14 : a0.eval (.tmp 14) = .int .i64 r2) (e15 : a0.eval (.tmp 15) = .int .i64 x) (e17 : a0.eval (.tmp 17) = .int .i64 x) (e16 : a0.eval (.tmp 16) = .int .i64 r3) (e18 : a0.eval (.tmp 18) = .int .i64 r3)
    (l0 : B0 ≤ gp) (l1 : gp < ga) (l2 : ga < gb) (l3 : gb < gc) (l4 : gc < gd) (hS0 : Below B0 WW W0 ∧ Box W0 gp 23 (pcL p) ∧ Box W0 ga 23 (pcL fa) ∧ Box W0 gb 23 (pcL fa) ∧ Box W0 gc 23 (pcL ta) ∧ Box W0 gd 23 (pcL ta) ∧ True) (c7 : ∀ W, Calls Try.prog 15 #[agv (pcL p), .int .i64 n] W fun e w' => e = .returned (.bool mb) ∧ Below W.heap.size W w') (c8 : ∀ W, Calls Try.prog 16 #[agv (pcL p), .int .i64 n] W fun e w' => e = .returned (.bool mb) ∧ Below W.heap.size W w') (c9 : ∀ W, Calls Try.prog 17 #[agv (pcL p)] W fun e w' => e = .returned (.int .i64 ck) ∧ Below W.heap.size W w') (c10 : ∀ W, Calls Try.prog 18 #[agv (pcL p)] W fun e w' => e = .returned (.int .i64 ck) ∧ Below W.heap.size W w') 
    (hfin : ∀ (T : Nat → Value) w, T 43 = .bool false → Below B0 WW w ∧ Box w gp 23 (pcL p) ∧ Box w ga 23 (pcL fa) ∧ Box w gb 23 (pcL fa) ∧ Box w gc 23 (pcL ta) ∧ Box w gd 23 (pcL ta) ∧ True → Q .normal ((((((((((((((((((((((((((((((((((((((((((((a0.put (some 63) (T 0)).put (some 64) (T 1)).put (some 65) (T 2)).put (some 66) (T 3)).put (some 67) (T 4)).put (some 68) (T 5)).put (some 69) (T 6)).put (some 70) (T 7)).put (some 71) (T 8)).put (some 72) (T 9)).put (some 73) (T 10)).put (some 74) (T 11)).put (some 75) (T 12)).put (some 76) (T 13)).put (some 77) (T 14)).put (some 78) (T 15)).put (some 79) (T 16)).put (some 80) (T 17)).put (some 81) (T 18)).put (some 82) (T 19)).put (some 83) (T 20)).put (some 84) (T 21)).put (some 85) (T 22)).put (some 86) (T 23)).put (some 87) (T 24)).put (some 88) (T 25)).put (some 89) (T 26)).put (some 90) (T 27)).put (some 91) (T 28)).put (some 92) (T 29)).put (some 93) (T 30)).put (some 94) (T 31)).put (some 95) (T 32)).put (some 96) (T 33)).put (some 97) (T 34)).put (some 98) (T 35)).put (some 99) (T 36)).put (some 100) (T 37)).put (some 101) (T 38)).put (some 102) (T 39)).put (some 103) (T 40)).put (some 104) (T 41)).put (some 105) (T 42)).put (some 106) (T 43)) w) :
    (Code.region 7 (do7 ps) true).wp Try.prog Q a0 W0 := by
  refine wp_region_dets (by kernel_rfl) 44 rfl do7D ?_ (by decide) (do7T p fa ta n r1 r2 r3 x ck mb gp ga gb gc gd B0 WW) (fun D w => Below B0 WW w ∧ Box w gp 23 (pcL p) ∧ Box w ga 23 (pcL fa) ∧ Box w gb 23 (pcL fa) ∧ Box w gc 23 (pcL ta) ∧ Box w gd 23 (pcL ta) ∧ True) (fun D _ => ⟨hS0.1.drew, hS0.2.1, hS0.2.2.1, hS0.2.2.2.1, hS0.2.2.2.2.1, hS0.2.2.2.2.2.1, trivial⟩) ?_ (by rfl) (fun w D _ hSw => hfin (do7T p fa ta n r1 r2 r3 x ck mb gp ga gb gc gd B0 WW) w rfl hSw)
  · intro jq t hj ht
    have : ∀ j, j < 44 → (do7D j).all (· < 154) = true := by decide
    have := this jq hj
    rw [ht] at this
    rw [sz]
    simpa using this
  · intro iq o ho D a w hSw hDi hcl hs hel K hK
    have hin : iq < 44 := (Array.getElem?_eq_some_iff.1 ho).1
    match iq, hin, ho with
    | 0, _, ho =>
      obtain rfl := Option.some.inj (ho.symm.trans (do7_0 ps))
      have u7 : a.eval (.tmp 7) = .pointer (some ⟨ga, 0, none⟩) := (hel 7 (by decide)).trans e7
      exact op_valW (do7_0 ps) rfl (v := agv (pcL fa)) (run_loadS isS23 rfl u7 hSw.2.2.1) (hK w (fun D' _ _ => hSw))
    | 1, _, ho =>
      obtain rfl := Option.some.inj (ho.symm.trans (do7_1 ps))
      have u9 : a.eval (.tmp 9) = .pointer (some ⟨gb, 0, none⟩) := (hel 9 (by decide)).trans e9
      exact op_valW (do7_1 ps) rfl (v := agv (pcL fa)) (run_loadS isS23 rfl u9 hSw.2.2.2.1) (hK w (fun D' _ _ => hSw))
    | 2, _, ho =>
      obtain rfl := Option.some.inj (ho.symm.trans (do7_2 ps))
      have s0 : a.eval (.tmp 63) = agv (pcL fa) := hs 0 63 (by rfl) rfl
      have s1 : a.eval (.tmp 64) = agv (pcL fa) := hs 1 64 (by rfl) rfl
      exact op_valW (do7_2 ps) rfl (v := .bool false) (run_cmpS rfl s0 s1 (.inr rfl) (cmpS _)) (hK w (fun D' _ _ => hSw))
    | 3, _, ho =>
      obtain rfl := Option.some.inj (ho.symm.trans (do7_3 ps))
      have s2 : a.eval (.tmp 65) = .bool false := hs 2 65 (by rfl) rfl
      exact op_valW (do7_3 ps) rfl (v := .bool false) (by unfold do7O3 execOp; simp only [s2]; first | (go_simp; done) | (go_simp; with_reducible rfl)) (hK w (fun D' _ _ => hSw))
    | 4, _, ho =>
      obtain rfl := Option.some.inj (ho.symm.trans (do7_4 ps))
      have s3 : a.eval (.tmp 66) = .bool false := hs 3 66 (by rfl) rfl
      have u8 : a.eval (.tmp 8) = .int .i64 r1 := (hel 8 (by decide)).trans e8
      exact op_valW (do7_4 ps) (by rw [wanted_of rfl (do7_3 ps) rfl s3]; rfl) (v := .int .i64 r1) (by unfold do7O4 execOp; simp only [u8]; first | (go_simp; done) | (go_simp; with_reducible rfl)) (hK w (fun D' _ _ => hSw))
    | 5, _, ho =>
      obtain rfl := Option.some.inj (ho.symm.trans (do7_5 ps))
      have s3 : a.eval (.tmp 66) = .bool false := hs 3 66 (by rfl) rfl
      have u10 : a.eval (.tmp 10) = .int .i64 r1 := (hel 10 (by decide)).trans e10
      exact op_valW (do7_5 ps) (by rw [wanted_of rfl (do7_3 ps) rfl s3]; rfl) (v := .int .i64 r1) (by unfold do7O5 execOp; simp only [u10]; first | (go_simp; done) | (go_simp; with_reducible rfl)) (hK w (fun D' _ _ => hSw))
    | 6, _, ho =>
      obtain rfl := Option.some.inj (ho.symm.trans (do7_6 ps))
      have s4 : a.eval (.tmp 67) = .int .i64 r1 := hs 4 67 (by rfl) rfl
      have s5 : a.eval (.tmp 68) = .int .i64 r1 := hs 5 68 (by rfl) rfl
      have s3 : a.eval (.tmp 66) = .bool false := hs 3 66 (by rfl) rfl
      exact op_valW (do7_6 ps) (by rw [wanted_of rfl (do7_3 ps) rfl s3]; rfl) (v := .bool false) (by unfold do7O6 execOp; simp only [s4, s5]; first | (go_simp; done) | (go_simp; with_reducible rfl)) (hK w (fun D' _ _ => hSw))
    | 7, _, ho =>
      obtain rfl := Option.some.inj (ho.symm.trans (do7_7 ps))
      have s3 : a.eval (.tmp 66) = .bool false := hs 3 66 (by rfl) rfl
      have s6 : a.eval (.tmp 69) = .bool false := hs 6 69 (by rfl) rfl
      exact op_valW (do7_7 ps) rfl (v := .bool false) (by unfold do7O7 execOp; simp only [s3, s6]; first | (go_simp; done) | (go_simp; with_reducible rfl)) (hK w (fun D' _ _ => hSw))
    | 8, _, ho =>
      obtain rfl := Option.some.inj (ho.symm.trans (do7_8 ps))
      have s7 : a.eval (.tmp 70) = .bool false := hs 7 70 (by rfl) rfl
      exact op_valW (do7_8 ps) rfl (v := .bool false) (by unfold do7O8 execOp; simp only [s7]; first | (go_simp; done) | (go_simp; with_reducible rfl)) (hK w (fun D' _ _ => hSw))
    | 9, _, ho =>
      obtain rfl := Option.some.inj (ho.symm.trans (do7_9 ps))
      have s8 : a.eval (.tmp 71) = .bool false := hs 8 71 (by rfl) rfl
      have u11 : a.eval (.tmp 11) = .pointer (some ⟨gc, 0, none⟩) := (hel 11 (by decide)).trans e11
      exact op_valW (do7_9 ps) (by rw [wanted_of rfl (do7_8 ps) rfl s8]; rfl) (v := agv (pcL ta)) (run_loadS isS23 rfl u11 hSw.2.2.2.2.1) (hK w (fun D' _ _ => hSw))
    | 10, _, ho =>
      obtain rfl := Option.some.inj (ho.symm.trans (do7_10 ps))
      have s8 : a.eval (.tmp 71) = .bool false := hs 8 71 (by rfl) rfl
      have u13 : a.eval (.tmp 13) = .pointer (some ⟨gd, 0, none⟩) := (hel 13 (by decide)).trans e13
      exact op_valW (do7_10 ps) (by rw [wanted_of rfl (do7_8 ps) rfl s8]; rfl) (v := agv (pcL ta)) (run_loadS isS23 rfl u13 hSw.2.2.2.2.2.1) (hK w (fun D' _ _ => hSw))
    | 11, _, ho =>
      obtain rfl := Option.some.inj (ho.symm.trans (do7_11 ps))
      have s9 : a.eval (.tmp 72) = agv (pcL ta) := hs 9 72 (by rfl) rfl
      have s10 : a.eval (.tmp 73) = agv (pcL ta) := hs 10 73 (by rfl) rfl
      have s8 : a.eval (.tmp 71) = .bool false := hs 8 71 (by rfl) rfl
      exact op_valW (do7_11 ps) (by rw [wanted_of rfl (do7_8 ps) rfl s8]; rfl) (v := .bool false) (run_cmpS rfl s9 s10 (.inr rfl) (cmpS _)) (hK w (fun D' _ _ => hSw))
    | 12, _, ho =>
      obtain rfl := Option.some.inj (ho.symm.trans (do7_12 ps))
      have s8 : a.eval (.tmp 71) = .bool false := hs 8 71 (by rfl) rfl
      have s11 : a.eval (.tmp 74) = .bool false := hs 11 74 (by rfl) rfl
      exact op_valW (do7_12 ps) rfl (v := .bool false) (by unfold do7O12 execOp; simp only [s8, s11]; first | (go_simp; done) | (go_simp; with_reducible rfl)) (hK w (fun D' _ _ => hSw))
    | 13, _, ho =>
      obtain rfl := Option.some.inj (ho.symm.trans (do7_13 ps))
      have s12 : a.eval (.tmp 75) = .bool false := hs 12 75 (by rfl) rfl
      exact op_valW (do7_13 ps) rfl (v := .bool false) (by unfold do7O13 execOp; simp only [s12]; first | (go_simp; done) | (go_simp; with_reducible rfl)) (hK w (fun D' _ _ => hSw))
    | 14, _, ho =>
      obtain rfl := Option.some.inj (ho.symm.trans (do7_14 ps))
      have s13 : a.eval (.tmp 76) = .bool false := hs 13 76 (by rfl) rfl
      have u12 : a.eval (.tmp 12) = .int .i64 r2 := (hel 12 (by decide)).trans e12
      exact op_valW (do7_14 ps) (by rw [wanted_of rfl (do7_13 ps) rfl s13]; rfl) (v := .int .i64 r2) (by unfold do7O14 execOp; simp only [u12]; first | (go_simp; done) | (go_simp; with_reducible rfl)) (hK w (fun D' _ _ => hSw))
    | 15, _, ho =>
      obtain rfl := Option.some.inj (ho.symm.trans (do7_15 ps))
      have s13 : a.eval (.tmp 76) = .bool false := hs 13 76 (by rfl) rfl
      have u14 : a.eval (.tmp 14) = .int .i64 r2 := (hel 14 (by decide)).trans e14
      exact op_valW (do7_15 ps) (by rw [wanted_of rfl (do7_13 ps) rfl s13]; rfl) (v := .int .i64 r2) (by unfold do7O15 execOp; simp only [u14]; first | (go_simp; done) | (go_simp; with_reducible rfl)) (hK w (fun D' _ _ => hSw))
    | 16, _, ho =>
      obtain rfl := Option.some.inj (ho.symm.trans (do7_16 ps))
      have s14 : a.eval (.tmp 77) = .int .i64 r2 := hs 14 77 (by rfl) rfl
      have s15 : a.eval (.tmp 78) = .int .i64 r2 := hs 15 78 (by rfl) rfl
      have s13 : a.eval (.tmp 76) = .bool false := hs 13 76 (by rfl) rfl
      exact op_valW (do7_16 ps) (by rw [wanted_of rfl (do7_13 ps) rfl s13]; rfl) (v := .bool false) (by unfold do7O16 execOp; simp only [s14, s15]; first | (go_simp; done) | (go_simp; with_reducible rfl)) (hK w (fun D' _ _ => hSw))
    | 17, _, ho =>
      obtain rfl := Option.some.inj (ho.symm.trans (do7_17 ps))
      have s13 : a.eval (.tmp 76) = .bool false := hs 13 76 (by rfl) rfl
      have s16 : a.eval (.tmp 79) = .bool false := hs 16 79 (by rfl) rfl
      exact op_valW (do7_17 ps) rfl (v := .bool false) (by unfold do7O17 execOp; simp only [s13, s16]; first | (go_simp; done) | (go_simp; with_reducible rfl)) (hK w (fun D' _ _ => hSw))
    | 18, _, ho =>
      obtain rfl := Option.some.inj (ho.symm.trans (do7_18 ps))
      have s17 : a.eval (.tmp 80) = .bool false := hs 17 80 (by rfl) rfl
      exact op_valW (do7_18 ps) rfl (v := .bool false) (by unfold do7O18 execOp; simp only [s17]; first | (go_simp; done) | (go_simp; with_reducible rfl)) (hK w (fun D' _ _ => hSw))
    | 19, _, ho =>
      obtain rfl := Option.some.inj (ho.symm.trans (do7_19 ps))
      have s18 : a.eval (.tmp 81) = .bool false := hs 18 81 (by rfl) rfl
      have u15 : a.eval (.tmp 15) = .int .i64 x := (hel 15 (by decide)).trans e15
      exact op_valW (do7_19 ps) (by rw [wanted_of rfl (do7_18 ps) rfl s18]; rfl) (v := .int .i64 x) (by unfold do7O19 execOp; simp only [u15]; first | (go_simp; done) | (go_simp; with_reducible rfl)) (hK w (fun D' _ _ => hSw))
    | 20, _, ho =>
      obtain rfl := Option.some.inj (ho.symm.trans (do7_20 ps))
      have s18 : a.eval (.tmp 81) = .bool false := hs 18 81 (by rfl) rfl
      have u17 : a.eval (.tmp 17) = .int .i64 x := (hel 17 (by decide)).trans e17
      exact op_valW (do7_20 ps) (by rw [wanted_of rfl (do7_18 ps) rfl s18]; rfl) (v := .int .i64 x) (by unfold do7O20 execOp; simp only [u17]; first | (go_simp; done) | (go_simp; with_reducible rfl)) (hK w (fun D' _ _ => hSw))
    | 21, _, ho =>
      obtain rfl := Option.some.inj (ho.symm.trans (do7_21 ps))
      have s19 : a.eval (.tmp 82) = .int .i64 x := hs 19 82 (by rfl) rfl
      have s20 : a.eval (.tmp 83) = .int .i64 x := hs 20 83 (by rfl) rfl
      have s18 : a.eval (.tmp 81) = .bool false := hs 18 81 (by rfl) rfl
      exact op_valW (do7_21 ps) (by rw [wanted_of rfl (do7_18 ps) rfl s18]; rfl) (v := .bool false) (by unfold do7O21 execOp; simp only [s19, s20]; first | (go_simp; done) | (go_simp; with_reducible rfl)) (hK w (fun D' _ _ => hSw))
    | 22, _, ho =>
      obtain rfl := Option.some.inj (ho.symm.trans (do7_22 ps))
      have s18 : a.eval (.tmp 81) = .bool false := hs 18 81 (by rfl) rfl
      have s21 : a.eval (.tmp 84) = .bool false := hs 21 84 (by rfl) rfl
      exact op_valW (do7_22 ps) rfl (v := .bool false) (by unfold do7O22 execOp; simp only [s18, s21]; first | (go_simp; done) | (go_simp; with_reducible rfl)) (hK w (fun D' _ _ => hSw))
    | 23, _, ho =>
      obtain rfl := Option.some.inj (ho.symm.trans (do7_23 ps))
      have s22 : a.eval (.tmp 85) = .bool false := hs 22 85 (by rfl) rfl
      exact op_valW (do7_23 ps) rfl (v := .bool false) (by unfold do7O23 execOp; simp only [s22]; first | (go_simp; done) | (go_simp; with_reducible rfl)) (hK w (fun D' _ _ => hSw))
    | 24, _, ho =>
      obtain rfl := Option.some.inj (ho.symm.trans (do7_24 ps))
      have s23 : a.eval (.tmp 86) = .bool false := hs 23 86 (by rfl) rfl
      have u16 : a.eval (.tmp 16) = .int .i64 r3 := (hel 16 (by decide)).trans e16
      exact op_valW (do7_24 ps) (by rw [wanted_of rfl (do7_23 ps) rfl s23]; rfl) (v := .int .i64 r3) (by unfold do7O24 execOp; simp only [u16]; first | (go_simp; done) | (go_simp; with_reducible rfl)) (hK w (fun D' _ _ => hSw))
    | 25, _, ho =>
      obtain rfl := Option.some.inj (ho.symm.trans (do7_25 ps))
      have s23 : a.eval (.tmp 86) = .bool false := hs 23 86 (by rfl) rfl
      have u18 : a.eval (.tmp 18) = .int .i64 r3 := (hel 18 (by decide)).trans e18
      exact op_valW (do7_25 ps) (by rw [wanted_of rfl (do7_23 ps) rfl s23]; rfl) (v := .int .i64 r3) (by unfold do7O25 execOp; simp only [u18]; first | (go_simp; done) | (go_simp; with_reducible rfl)) (hK w (fun D' _ _ => hSw))
    | 26, _, ho =>
      obtain rfl := Option.some.inj (ho.symm.trans (do7_26 ps))
      have s24 : a.eval (.tmp 87) = .int .i64 r3 := hs 24 87 (by rfl) rfl
      have s25 : a.eval (.tmp 88) = .int .i64 r3 := hs 25 88 (by rfl) rfl
      have s23 : a.eval (.tmp 86) = .bool false := hs 23 86 (by rfl) rfl
      exact op_valW (do7_26 ps) (by rw [wanted_of rfl (do7_23 ps) rfl s23]; rfl) (v := .bool false) (by unfold do7O26 execOp; simp only [s24, s25]; first | (go_simp; done) | (go_simp; with_reducible rfl)) (hK w (fun D' _ _ => hSw))
    | 27, _, ho =>
      obtain rfl := Option.some.inj (ho.symm.trans (do7_27 ps))
      have s23 : a.eval (.tmp 86) = .bool false := hs 23 86 (by rfl) rfl
      have s26 : a.eval (.tmp 89) = .bool false := hs 26 89 (by rfl) rfl
      exact op_valW (do7_27 ps) rfl (v := .bool false) (by unfold do7O27 execOp; simp only [s23, s26]; first | (go_simp; done) | (go_simp; with_reducible rfl)) (hK w (fun D' _ _ => hSw))
    | 28, _, ho =>
      obtain rfl := Option.some.inj (ho.symm.trans (do7_28 ps))
      have s27 : a.eval (.tmp 90) = .bool false := hs 27 90 (by rfl) rfl
      exact op_valW (do7_28 ps) rfl (v := .bool false) (by unfold do7O28 execOp; simp only [s27]; first | (go_simp; done) | (go_simp; with_reducible rfl)) (hK w (fun D' _ _ => hSw))
    | 29, _, ho =>
      obtain rfl := Option.some.inj (ho.symm.trans (do7_29 ps))
      have s28 : a.eval (.tmp 91) = .bool false := hs 28 91 (by rfl) rfl
      have u3 : a.eval (.tmp 3) = .pointer (some ⟨gp, 0, none⟩) := (hel 3 (by decide)).trans e3
      exact op_valW (do7_29 ps) (by rw [wanted_of rfl (do7_28 ps) rfl s28]; rfl) (v := agv (pcL p)) (run_loadS isS23 rfl u3 hSw.2.1) (hK w (fun D' _ _ => hSw))
    | 30, _, ho =>
      obtain rfl := Option.some.inj (ho.symm.trans (do7_30 ps))
      have s28 : a.eval (.tmp 91) = .bool false := hs 28 91 (by rfl) rfl
      have u1 : a.eval (.tmp 1) = .int .i64 n := (hel 1 (by decide)).trans e1
      exact op_valW (do7_30 ps) (by rw [wanted_of rfl (do7_28 ps) rfl s28]; rfl) (v := .int .i64 n) (by unfold do7O30 execOp; simp only [u1]; first | (go_simp; done) | (go_simp; with_reducible rfl)) (hK w (fun D' _ _ => hSw))
    | 31, _, ho =>
      obtain rfl := Option.some.inj (ho.symm.trans (do7_31 ps))
      have s29 : a.eval (.tmp 92) = agv (pcL p) := hs 29 92 (by rfl) rfl
      have s30 : a.eval (.tmp 93) = .int .i64 n := hs 30 93 (by rfl) rfl
      have s28 : a.eval (.tmp 91) = .bool false := hs 28 91 (by rfl) rfl
      exact op_enterW (do7_31 ps) (by rw [wanted_of rfl (do7_28 ps) rfl s28]; rfl) (f := 15) (args := #[agv (pcL p), .int .i64 n]) (by rw [run_call rfl enter15]; simp only [List.map_toArray, List.map_cons, List.map_nil, s29, s30]; try rfl) ((c7 w).mono (fun e w' hh => ⟨_, hh.1, hK w' (fun D' _ _ => ⟨hSw.1.trans (hh.2.mono (Nat.le_trans l0 (Nat.le_of_lt hSw.2.1.lt))), hSw.2.1.later hh.2, hSw.2.2.1.later hh.2, hSw.2.2.2.1.later hh.2, hSw.2.2.2.2.1.later hh.2, hSw.2.2.2.2.2.1.later hh.2, trivial⟩)⟩))
    | 32, _, ho =>
      obtain rfl := Option.some.inj (ho.symm.trans (do7_32 ps))
      have s28 : a.eval (.tmp 91) = .bool false := hs 28 91 (by rfl) rfl
      have u3 : a.eval (.tmp 3) = .pointer (some ⟨gp, 0, none⟩) := (hel 3 (by decide)).trans e3
      exact op_valW (do7_32 ps) (by rw [wanted_of rfl (do7_28 ps) rfl s28]; rfl) (v := agv (pcL p)) (run_loadS isS23 rfl u3 hSw.2.1) (hK w (fun D' _ _ => hSw))
    | 33, _, ho =>
      obtain rfl := Option.some.inj (ho.symm.trans (do7_33 ps))
      have s28 : a.eval (.tmp 91) = .bool false := hs 28 91 (by rfl) rfl
      have u1 : a.eval (.tmp 1) = .int .i64 n := (hel 1 (by decide)).trans e1
      exact op_valW (do7_33 ps) (by rw [wanted_of rfl (do7_28 ps) rfl s28]; rfl) (v := .int .i64 n) (by unfold do7O33 execOp; simp only [u1]; first | (go_simp; done) | (go_simp; with_reducible rfl)) (hK w (fun D' _ _ => hSw))
    | 34, _, ho =>
      obtain rfl := Option.some.inj (ho.symm.trans (do7_34 ps))
      have s32 : a.eval (.tmp 95) = agv (pcL p) := hs 32 95 (by rfl) rfl
      have s33 : a.eval (.tmp 96) = .int .i64 n := hs 33 96 (by rfl) rfl
      have s28 : a.eval (.tmp 91) = .bool false := hs 28 91 (by rfl) rfl
      exact op_enterW (do7_34 ps) (by rw [wanted_of rfl (do7_28 ps) rfl s28]; rfl) (f := 16) (args := #[agv (pcL p), .int .i64 n]) (by rw [run_call rfl enter16]; simp only [List.map_toArray, List.map_cons, List.map_nil, s32, s33]; try rfl) ((c8 w).mono (fun e w' hh => ⟨_, hh.1, hK w' (fun D' _ _ => ⟨hSw.1.trans (hh.2.mono (Nat.le_trans l0 (Nat.le_of_lt hSw.2.1.lt))), hSw.2.1.later hh.2, hSw.2.2.1.later hh.2, hSw.2.2.2.1.later hh.2, hSw.2.2.2.2.1.later hh.2, hSw.2.2.2.2.2.1.later hh.2, trivial⟩)⟩))
    | 35, _, ho =>
      obtain rfl := Option.some.inj (ho.symm.trans (do7_35 ps))
      have s31 : a.eval (.tmp 94) = .bool mb := hs 31 94 (by rfl) rfl
      have s34 : a.eval (.tmp 97) = .bool mb := hs 34 97 (by rfl) rfl
      have s28 : a.eval (.tmp 91) = .bool false := hs 28 91 (by rfl) rfl
      exact op_valW (do7_35 ps) (by rw [wanted_of rfl (do7_28 ps) rfl s28]; rfl) (v := .bool false) (by unfold do7O35 execOp; simp only [s31, s34]; first | (go_simp; done) | (go_simp; with_reducible rfl)) (hK w (fun D' _ _ => hSw))
    | 36, _, ho =>
      obtain rfl := Option.some.inj (ho.symm.trans (do7_36 ps))
      have s28 : a.eval (.tmp 91) = .bool false := hs 28 91 (by rfl) rfl
      have s35 : a.eval (.tmp 98) = .bool false := hs 35 98 (by rfl) rfl
      exact op_valW (do7_36 ps) rfl (v := .bool false) (by unfold do7O36 execOp; simp only [s28, s35]; first | (go_simp; done) | (go_simp; with_reducible rfl)) (hK w (fun D' _ _ => hSw))
    | 37, _, ho =>
      obtain rfl := Option.some.inj (ho.symm.trans (do7_37 ps))
      have s36 : a.eval (.tmp 99) = .bool false := hs 36 99 (by rfl) rfl
      exact op_valW (do7_37 ps) rfl (v := .bool false) (by unfold do7O37 execOp; simp only [s36]; first | (go_simp; done) | (go_simp; with_reducible rfl)) (hK w (fun D' _ _ => hSw))
    | 38, _, ho =>
      obtain rfl := Option.some.inj (ho.symm.trans (do7_38 ps))
      have s37 : a.eval (.tmp 100) = .bool false := hs 37 100 (by rfl) rfl
      have u3 : a.eval (.tmp 3) = .pointer (some ⟨gp, 0, none⟩) := (hel 3 (by decide)).trans e3
      exact op_valW (do7_38 ps) (by rw [wanted_of rfl (do7_37 ps) rfl s37]; rfl) (v := agv (pcL p)) (run_loadS isS23 rfl u3 hSw.2.1) (hK w (fun D' _ _ => hSw))
    | 39, _, ho =>
      obtain rfl := Option.some.inj (ho.symm.trans (do7_39 ps))
      have s38 : a.eval (.tmp 101) = agv (pcL p) := hs 38 101 (by rfl) rfl
      have s37 : a.eval (.tmp 100) = .bool false := hs 37 100 (by rfl) rfl
      exact op_enterW (do7_39 ps) (by rw [wanted_of rfl (do7_37 ps) rfl s37]; rfl) (f := 17) (args := #[agv (pcL p)]) (by rw [run_call rfl enter17]; simp only [List.map_toArray, List.map_cons, List.map_nil, s38]; try rfl) ((c9 w).mono (fun e w' hh => ⟨_, hh.1, hK w' (fun D' _ _ => ⟨hSw.1.trans (hh.2.mono (Nat.le_trans l0 (Nat.le_of_lt hSw.2.1.lt))), hSw.2.1.later hh.2, hSw.2.2.1.later hh.2, hSw.2.2.2.1.later hh.2, hSw.2.2.2.2.1.later hh.2, hSw.2.2.2.2.2.1.later hh.2, trivial⟩)⟩))
    | 40, _, ho =>
      obtain rfl := Option.some.inj (ho.symm.trans (do7_40 ps))
      have s37 : a.eval (.tmp 100) = .bool false := hs 37 100 (by rfl) rfl
      have u3 : a.eval (.tmp 3) = .pointer (some ⟨gp, 0, none⟩) := (hel 3 (by decide)).trans e3
      exact op_valW (do7_40 ps) (by rw [wanted_of rfl (do7_37 ps) rfl s37]; rfl) (v := agv (pcL p)) (run_loadS isS23 rfl u3 hSw.2.1) (hK w (fun D' _ _ => hSw))
    | 41, _, ho =>
      obtain rfl := Option.some.inj (ho.symm.trans (do7_41 ps))
      have s40 : a.eval (.tmp 103) = agv (pcL p) := hs 40 103 (by rfl) rfl
      have s37 : a.eval (.tmp 100) = .bool false := hs 37 100 (by rfl) rfl
      exact op_enterW (do7_41 ps) (by rw [wanted_of rfl (do7_37 ps) rfl s37]; rfl) (f := 18) (args := #[agv (pcL p)]) (by rw [run_call rfl enter18]; simp only [List.map_toArray, List.map_cons, List.map_nil, s40]; try rfl) ((c10 w).mono (fun e w' hh => ⟨_, hh.1, hK w' (fun D' _ _ => ⟨hSw.1.trans (hh.2.mono (Nat.le_trans l0 (Nat.le_of_lt hSw.2.1.lt))), hSw.2.1.later hh.2, hSw.2.2.1.later hh.2, hSw.2.2.2.1.later hh.2, hSw.2.2.2.2.1.later hh.2, hSw.2.2.2.2.2.1.later hh.2, trivial⟩)⟩))
    | 42, _, ho =>
      obtain rfl := Option.some.inj (ho.symm.trans (do7_42 ps))
      have s39 : a.eval (.tmp 102) = .int .i64 ck := hs 39 102 (by rfl) rfl
      have s41 : a.eval (.tmp 104) = .int .i64 ck := hs 41 104 (by rfl) rfl
      have s37 : a.eval (.tmp 100) = .bool false := hs 37 100 (by rfl) rfl
      exact op_valW (do7_42 ps) (by rw [wanted_of rfl (do7_37 ps) rfl s37]; rfl) (v := .bool false) (by unfold do7O42 execOp; simp only [s39, s41]; first | (go_simp; done) | (go_simp; with_reducible rfl)) (hK w (fun D' _ _ => hSw))
    | 43, _, ho =>
      obtain rfl := Option.some.inj (ho.symm.trans (do7_43 ps))
      have s37 : a.eval (.tmp 100) = .bool false := hs 37 100 (by rfl) rfl
      have s42 : a.eval (.tmp 105) = .bool false := hs 42 105 (by rfl) rfl
      exact op_valW (do7_43 ps) rfl (v := .bool false) (by unfold do7O43 execOp; simp only [s37, s42]; first | (go_simp; done) | (go_simp; with_reducible rfl)) (hK w (fun D' _ _ => hSw))
    | iq + 44, hin, _ => exact absurd hin (by omega)
end Go.Proofs.Ytifgdpokmgibgaa
