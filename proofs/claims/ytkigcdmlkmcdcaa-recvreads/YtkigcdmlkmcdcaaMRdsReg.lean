/- The last region of RecvReads. -/
import Derived.Test.YtkigcdmlkmcdcaaZ
import Derived.Test.YtkigcdmlkmcdcaaMRefTlT
import Derived.Test.YtkigcdmlkmcdcaaMDet
import Derived.Test.YtkigcdmlkmcdcaaMToldW
import Derived.Test.YtkigcdmlkmcdcaaMSameW
import Derived.Test.YtkigcdmlkmcdcaaMInAll
namespace Go.Proofs.Ytkigcdmlkmcdcaa
open Go.ChangeShapes Go.WideShapes Go.ChangeAt Go.RowKit
set_option linter.unusedVariables false
set_option linter.unusedSimpArgs false

theorem zfl (args : Array Value) (w : World) : (callFunc 16 args).run Try.prog w = .ok (.enter 16 args) w := by kernel_rfl
theorem enter_sameB (args : Array Value) (w : World) : (callFunc 21 args).run Try.prog w = .ok (.enter 21 args) w := by kernel_rfl
theorem zfk (args : Array Value) (w : World) : (callFunc 17 args).run Try.prog w = .ok (.enter 17 args) w := by kernel_rfl
theorem enter_winP (args : Array Value) (w : World) : (callFunc 10 args).run Try.prog w = .ok (.enter 10 args) w := by kernel_rfl
theorem enter_winR (args : Array Value) (w : World) : (callFunc 22 args).run Try.prog w = .ok (.enter 22 args) w := by kernel_rfl
theorem enter_headsR (args : Array Value) (w : World) : (callFunc 11 args).run Try.prog w = .ok (.enter 11 args) w := by kernel_rfl
def rds5O0 (ps : String) : Oper := { dst := some 47, op := .load 27 (.tmp 5), type := 27, pos := ps, after := #[], guard := none }
def rds5O1 (ps : String) : Oper := { dst := some 48, op := .load 27 (.tmp 10), type := 27, pos := ps, after := #[], guard := none }
def rds5O2 (ps : String) : Oper := { dst := some 49, op := .call { callee := .value (.func 16), args := #[.tmp 47, .tmp 48], argTypes := #[27, 27] }, type := 4, pos := ps, after := #[{ on := 0, ground := .data }, { on := 1, ground := .data }], guard := none }
def rds5O3 (ps : String) : Oper := { dst := some 50, op := .move (.tmp 49), type := 4, pos := ps, after := #[{ on := 2, ground := .data }, { on := 2, ground := .chain }], guard := none }
def rds5O4 (ps : String) : Oper := { dst := some 51, op := .move (.tmp 6), type := 22, pos := ps, after := #[{ on := 3, ground := .guard }], guard := some (3, true) }
def rds5O5 (ps : String) : Oper := { dst := some 52, op := .move (.tmp 11), type := 22, pos := ps, after := #[{ on := 3, ground := .guard }], guard := some (3, true) }
def rds5O6 (ps : String) : Oper := { dst := some 53, op := .call { callee := .value (.func 21), args := #[.tmp 51, .tmp 52], argTypes := #[22, 22] }, type := 4, pos := ps, after := #[{ on := 4, ground := .data }, { on := 5, ground := .data }, { on := 3, ground := .chain }, { on := 3, ground := .guard }], guard := some (3, true) }
def rds5O7 (ps : String) : Oper := { dst := some 54, op := .pick (.tmp 50) (.tmp 53) (.const (.bool false)), type := 4, pos := ps, after := #[{ on := 3, ground := .data }, { on := 6, ground := .data }], guard := none }
def rds5O8 (ps : String) : Oper := { dst := some 55, op := .move (.tmp 54), type := 4, pos := ps, after := #[{ on := 7, ground := .data }, { on := 6, ground := .chain }], guard := none }
def rds5O9 (ps : String) : Oper := { dst := some 56, op := .load 34 (.tmp 7), type := 34, pos := ps, after := #[{ on := 8, ground := .guard }], guard := some (8, true) }
def rds5O10 (ps : String) : Oper := { dst := some 57, op := .load 34 (.tmp 12), type := 34, pos := ps, after := #[{ on := 8, ground := .guard }], guard := some (8, true) }
def rds5O11 (ps : String) : Oper := { dst := some 58, op := .call { callee := .value (.func 17), args := #[.tmp 56, .tmp 57], argTypes := #[34, 34] }, type := 4, pos := ps, after := #[{ on := 9, ground := .data }, { on := 10, ground := .data }, { on := 8, ground := .chain }, { on := 8, ground := .guard }], guard := some (8, true) }
def rds5O12 (ps : String) : Oper := { dst := some 59, op := .pick (.tmp 55) (.tmp 58) (.const (.bool false)), type := 4, pos := ps, after := #[{ on := 8, ground := .data }, { on := 11, ground := .data }], guard := none }
def rds5O13 (ps : String) : Oper := { dst := some 60, op := .move (.tmp 59), type := 4, pos := ps, after := #[{ on := 12, ground := .data }, { on := 11, ground := .chain }], guard := none }
def rds5O14 (ps : String) : Oper := { dst := some 61, op := .move (.tmp 8), type := 4, pos := ps, after := #[{ on := 13, ground := .guard }], guard := some (13, true) }
def rds5O15 (ps : String) : Oper := { dst := some 62, op := .move (.tmp 13), type := 4, pos := ps, after := #[{ on := 13, ground := .guard }], guard := some (13, true) }
def rds5O16 (ps : String) : Oper := { dst := some 63, op := .binOp .eql 4 (.tmp 61) (.tmp 62) 4, type := 4, pos := ps, after := #[{ on := 14, ground := .data }, { on := 15, ground := .data }, { on := 13, ground := .guard }], guard := some (13, true) }
def rds5O17 (ps : String) : Oper := { dst := some 64, op := .pick (.tmp 60) (.tmp 63) (.const (.bool false)), type := 4, pos := ps, after := #[{ on := 13, ground := .data }, { on := 16, ground := .data }], guard := none }
def rds5O18 (ps : String) : Oper := { dst := some 65, op := .move (.tmp 64), type := 4, pos := ps, after := #[{ on := 17, ground := .data }, { on := 13, ground := .chain }], guard := none }
def rds5O19 (ps : String) : Oper := { dst := some 66, op := .move (.tmp 9), type := 28, pos := ps, after := #[{ on := 18, ground := .guard }], guard := some (18, true) }
def rds5O20 (ps : String) : Oper := { dst := some 67, op := .move (.tmp 14), type := 3, pos := ps, after := #[{ on := 18, ground := .guard }], guard := some (18, true) }
def rds5O21 (ps : String) : Oper := { dst := some 68, op := .binOp .eql 3 (.tmp 66) (.tmp 67) 3, type := 4, pos := ps, after := #[{ on := 19, ground := .data }, { on := 20, ground := .data }, { on := 18, ground := .guard }], guard := some (18, true) }
def rds5O22 (ps : String) : Oper := { dst := some 69, op := .pick (.tmp 65) (.tmp 68) (.const (.bool false)), type := 4, pos := ps, after := #[{ on := 18, ground := .data }, { on := 21, ground := .data }], guard := none }
def rds5O23 (ps : String) : Oper := { dst := some 70, op := .move (.tmp 69), type := 4, pos := ps, after := #[{ on := 22, ground := .data }, { on := 18, ground := .chain }], guard := none }
def rds5O24 (ps : String) : Oper := { dst := some 71, op := .load 27 (.tmp 15), type := 27, pos := ps, after := #[{ on := 23, ground := .guard }], guard := some (23, true) }
def rds5O25 (ps : String) : Oper := { dst := some 72, op := .load 27 (.tmp 17), type := 27, pos := ps, after := #[{ on := 23, ground := .guard }], guard := some (23, true) }
def rds5O26 (ps : String) : Oper := { dst := some 73, op := .call { callee := .value (.func 16), args := #[.tmp 71, .tmp 72], argTypes := #[27, 27] }, type := 4, pos := ps, after := #[{ on := 24, ground := .data }, { on := 25, ground := .data }, { on := 23, ground := .chain }, { on := 23, ground := .guard }], guard := some (23, true) }
def rds5O27 (ps : String) : Oper := { dst := some 74, op := .pick (.tmp 70) (.tmp 73) (.const (.bool false)), type := 4, pos := ps, after := #[{ on := 23, ground := .data }, { on := 26, ground := .data }], guard := none }
def rds5O28 (ps : String) : Oper := { dst := some 75, op := .move (.tmp 74), type := 4, pos := ps, after := #[{ on := 27, ground := .data }, { on := 26, ground := .chain }], guard := none }
def rds5O29 (ps : String) : Oper := { dst := some 76, op := .load 34 (.tmp 16), type := 34, pos := ps, after := #[{ on := 28, ground := .guard }], guard := some (28, true) }
def rds5O30 (ps : String) : Oper := { dst := some 77, op := .load 34 (.tmp 18), type := 34, pos := ps, after := #[{ on := 28, ground := .guard }], guard := some (28, true) }
def rds5O31 (ps : String) : Oper := { dst := some 78, op := .call { callee := .value (.func 17), args := #[.tmp 76, .tmp 77], argTypes := #[34, 34] }, type := 4, pos := ps, after := #[{ on := 29, ground := .data }, { on := 30, ground := .data }, { on := 28, ground := .chain }, { on := 28, ground := .guard }], guard := some (28, true) }
def rds5O32 (ps : String) : Oper := { dst := some 79, op := .pick (.tmp 75) (.tmp 78) (.const (.bool false)), type := 4, pos := ps, after := #[{ on := 28, ground := .data }, { on := 31, ground := .data }], guard := none }
def rds5O33 (ps : String) : Oper := { dst := some 80, op := .move (.tmp 79), type := 4, pos := ps, after := #[{ on := 32, ground := .data }, { on := 31, ground := .chain }], guard := none }
def rds5O34 (ps : String) : Oper := { dst := some 81, op := .load 27 (.tmp 2), type := 27, pos := ps, after := #[{ on := 33, ground := .guard }], guard := some (33, true) }
def rds5O35 (ps : String) : Oper := { dst := some 82, op := .call { callee := .value (.func 10), args := #[.tmp 81], argTypes := #[27] }, type := 3, pos := ps, after := #[{ on := 34, ground := .data }, { on := 33, ground := .chain }, { on := 33, ground := .guard }], guard := some (33, true) }
def rds5O36 (ps : String) : Oper := { dst := some 83, op := .load 27 (.tmp 2), type := 27, pos := ps, after := #[{ on := 33, ground := .guard }], guard := some (33, true) }
def rds5O37 (ps : String) : Oper := { dst := some 84, op := .call { callee := .value (.func 22), args := #[.tmp 83], argTypes := #[27] }, type := 3, pos := ps, after := #[{ on := 36, ground := .data }, { on := 35, ground := .chain }, { on := 33, ground := .guard }], guard := some (33, true) }
def rds5O38 (ps : String) : Oper := { dst := some 85, op := .binOp .eql 3 (.tmp 82) (.tmp 84) 3, type := 4, pos := ps, after := #[{ on := 35, ground := .data }, { on := 37, ground := .data }, { on := 33, ground := .guard }], guard := some (33, true) }
def rds5O39 (ps : String) : Oper := { dst := some 86, op := .pick (.tmp 80) (.tmp 85) (.const (.bool false)), type := 4, pos := ps, after := #[{ on := 33, ground := .data }, { on := 38, ground := .data }], guard := none }
def rds5O40 (ps : String) : Oper := { dst := some 87, op := .move (.tmp 86), type := 4, pos := ps, after := #[{ on := 39, ground := .data }, { on := 37, ground := .chain }], guard := none }
def rds5O41 (ps : String) : Oper := { dst := some 88, op := .call { callee := .value (.func 11), args := #[], argTypes := #[] }, type := 4, pos := ps, after := #[{ on := 40, ground := .chain }, { on := 40, ground := .guard }], guard := some (40, true) }
def rds5O42 (ps : String) : Oper := { dst := some 89, op := .pick (.tmp 87) (.tmp 88) (.const (.bool false)), type := 4, pos := ps, after := #[{ on := 40, ground := .data }, { on := 41, ground := .data }], guard := none }
def rds5O43 (ps : String) : Oper := { dst := some 4, op := .assign (.tmp 89), type := 4, pos := ps, after := #[{ on := 42, ground := .data }, { on := 41, ground := .chain }, { on := 0, ground := .phase }, { on := 1, ground := .phase }, { on := 2, ground := .phase }, { on := 3, ground := .phase }, { on := 4, ground := .phase }, { on := 5, ground := .phase }, { on := 6, ground := .phase }, { on := 7, ground := .phase }, { on := 8, ground := .phase }, { on := 9, ground := .phase }, { on := 10, ground := .phase }, { on := 11, ground := .phase }, { on := 12, ground := .phase }, { on := 13, ground := .phase }, { on := 14, ground := .phase }, { on := 15, ground := .phase }, { on := 16, ground := .phase }, { on := 17, ground := .phase }, { on := 18, ground := .phase }, { on := 19, ground := .phase }, { on := 20, ground := .phase }, { on := 21, ground := .phase }, { on := 22, ground := .phase }, { on := 23, ground := .phase }, { on := 24, ground := .phase }, { on := 25, ground := .phase }, { on := 26, ground := .phase }, { on := 27, ground := .phase }, { on := 28, ground := .phase }, { on := 29, ground := .phase }, { on := 30, ground := .phase }, { on := 31, ground := .phase }, { on := 32, ground := .phase }, { on := 33, ground := .phase }, { on := 34, ground := .phase }, { on := 35, ground := .phase }, { on := 36, ground := .phase }, { on := 37, ground := .phase }, { on := 38, ground := .phase }, { on := 39, ground := .phase }, { on := 40, ground := .phase }, { on := 41, ground := .phase }, { on := 42, ground := .phase }], guard := none }
def rds5 (ps : String) : Array Oper := #[rds5O0 ps, rds5O1 ps, rds5O2 ps, rds5O3 ps, rds5O4 ps, rds5O5 ps, rds5O6 ps, rds5O7 ps, rds5O8 ps, rds5O9 ps, rds5O10 ps, rds5O11 ps, rds5O12 ps, rds5O13 ps, rds5O14 ps, rds5O15 ps, rds5O16 ps, rds5O17 ps, rds5O18 ps, rds5O19 ps, rds5O20 ps, rds5O21 ps, rds5O22 ps, rds5O23 ps, rds5O24 ps, rds5O25 ps, rds5O26 ps, rds5O27 ps, rds5O28 ps, rds5O29 ps, rds5O30 ps, rds5O31 ps, rds5O32 ps, rds5O33 ps, rds5O34 ps, rds5O35 ps, rds5O36 ps, rds5O37 ps, rds5O38 ps, rds5O39 ps, rds5O40 ps, rds5O41 ps, rds5O42 ps, rds5O43 ps]
theorem rds5_0 (ps : String) : (rds5 ps)[0]? = some (rds5O0 ps) := rfl
theorem rds5_1 (ps : String) : (rds5 ps)[1]? = some (rds5O1 ps) := rfl
theorem rds5_2 (ps : String) : (rds5 ps)[2]? = some (rds5O2 ps) := rfl
theorem zeo (ps : String) : (rds5 ps)[3]? = some (rds5O3 ps) := rfl
theorem rds5_4 (ps : String) : (rds5 ps)[4]? = some (rds5O4 ps) := rfl
theorem rds5_5 (ps : String) : (rds5 ps)[5]? = some (rds5O5 ps) := rfl
theorem rds5_6 (ps : String) : (rds5 ps)[6]? = some (rds5O6 ps) := rfl
theorem rds5_7 (ps : String) : (rds5 ps)[7]? = some (rds5O7 ps) := rfl
theorem zen (ps : String) : (rds5 ps)[8]? = some (rds5O8 ps) := rfl
theorem rds5_9 (ps : String) : (rds5 ps)[9]? = some (rds5O9 ps) := rfl
theorem rds5_10 (ps : String) : (rds5 ps)[10]? = some (rds5O10 ps) := rfl
theorem rds5_11 (ps : String) : (rds5 ps)[11]? = some (rds5O11 ps) := rfl
theorem rds5_12 (ps : String) : (rds5 ps)[12]? = some (rds5O12 ps) := rfl
theorem zc3 (ps : String) : (rds5 ps)[13]? = some (rds5O13 ps) := rfl
theorem rds5_14 (ps : String) : (rds5 ps)[14]? = some (rds5O14 ps) := rfl
theorem rds5_15 (ps : String) : (rds5 ps)[15]? = some (rds5O15 ps) := rfl
theorem rds5_16 (ps : String) : (rds5 ps)[16]? = some (rds5O16 ps) := rfl
theorem rds5_17 (ps : String) : (rds5 ps)[17]? = some (rds5O17 ps) := rfl
theorem zc2 (ps : String) : (rds5 ps)[18]? = some (rds5O18 ps) := rfl
theorem rds5_19 (ps : String) : (rds5 ps)[19]? = some (rds5O19 ps) := rfl
theorem rds5_20 (ps : String) : (rds5 ps)[20]? = some (rds5O20 ps) := rfl
theorem rds5_21 (ps : String) : (rds5 ps)[21]? = some (rds5O21 ps) := rfl
theorem rds5_22 (ps : String) : (rds5 ps)[22]? = some (rds5O22 ps) := rfl
theorem zc1 (ps : String) : (rds5 ps)[23]? = some (rds5O23 ps) := rfl
theorem rds5_24 (ps : String) : (rds5 ps)[24]? = some (rds5O24 ps) := rfl
theorem rds5_25 (ps : String) : (rds5 ps)[25]? = some (rds5O25 ps) := rfl
theorem rds5_26 (ps : String) : (rds5 ps)[26]? = some (rds5O26 ps) := rfl
theorem rds5_27 (ps : String) : (rds5 ps)[27]? = some (rds5O27 ps) := rfl
theorem zc0 (ps : String) : (rds5 ps)[28]? = some (rds5O28 ps) := rfl
theorem rds5_29 (ps : String) : (rds5 ps)[29]? = some (rds5O29 ps) := rfl
theorem rds5_30 (ps : String) : (rds5 ps)[30]? = some (rds5O30 ps) := rfl
theorem rds5_31 (ps : String) : (rds5 ps)[31]? = some (rds5O31 ps) := rfl
theorem rds5_32 (ps : String) : (rds5 ps)[32]? = some (rds5O32 ps) := rfl
theorem zb2 (ps : String) : (rds5 ps)[33]? = some (rds5O33 ps) := rfl
theorem rds5_34 (ps : String) : (rds5 ps)[34]? = some (rds5O34 ps) := rfl
theorem rds5_35 (ps : String) : (rds5 ps)[35]? = some (rds5O35 ps) := rfl
theorem rds5_36 (ps : String) : (rds5 ps)[36]? = some (rds5O36 ps) := rfl
theorem rds5_37 (ps : String) : (rds5 ps)[37]? = some (rds5O37 ps) := rfl
theorem rds5_38 (ps : String) : (rds5 ps)[38]? = some (rds5O38 ps) := rfl
theorem rds5_39 (ps : String) : (rds5 ps)[39]? = some (rds5O39 ps) := rfl
theorem zgm (ps : String) : (rds5 ps)[40]? = some (rds5O40 ps) := rfl
theorem rds5_41 (ps : String) : (rds5 ps)[41]? = some (rds5O41 ps) := rfl
theorem rds5_42 (ps : String) : (rds5 ps)[42]? = some (rds5O42 ps) := rfl
theorem rds5_43 (ps : String) : (rds5 ps)[43]? = some (rds5O43 ps) := rfl
def rds5D : Nat → Option Tmp
 | 0 => some 47
 | 1 => some 48
 | 2 => some 49
 | 3 => some 50
 | 4 => some 51
 | 5 => some 52
 | 6 => some 53
 | 7 => some 54
 | 8 => some 55
 | 9 => some 56
 | 10 => some 57
 | 11 => some 58
 | 12 => some 59
 | 13 => some 60
 | 14 => some 61
 | 15 => some 62
 | 16 => some 63
 | 17 => some 64
 | 18 => some 65
 | 19 => some 66
 | 20 => some 67
 | 21 => some 68
 | 22 => some 69
 | 23 => some 70
 | 24 => some 71
 | 25 => some 72
 | 26 => some 73
 | 27 => some 74
 | 28 => some 75
 | 29 => some 76
 | 30 => some 77
 | 31 => some 78
 | 32 => some 79
 | 33 => some 80
 | 34 => some 81
 | 35 => some 82
 | 36 => some 83
 | 37 => some 84
 | 38 => some 85
 | 39 => some 86
 | 40 => some 87
 | 41 => some 88
 | 42 => some 89
 | 43 => some 4
 | _ => none
def rds5T (r R1 R2 : Pl.Rv) (h ka kb kc kd : Hd) (T1 T2 : Seg) (sa sb sc sd : Hs) (g p1 p2 q1 q2 p3 p4 q3 q4 : Nat) (da db : Option Addr) (N dc ec : Nat) (q : Bool) (e1 wd : Int)  : Nat → Value
 | 0 => .agg #[.int .i64 R1.s.n, .slice ka.ua R1.s.u.length ka.uc, .slice ka.la ka.es.length ka.lc, .int .i64 R1.cap, .int .i64 R1.shift, .int .i64 R1.edge, .int .u32 R1.recent, .bool R1.stamps, .bool R1.sacks, .int .i64 R1.fin, .bool R1.dn, .slice ka.fa R1.first.length ka.fc, .int .u32 R1.irs, .int .u32 R1.own, .bool R1.stamp]
 | 1 => .agg #[.int .i64 R1.s.n, .slice kb.ua R1.s.u.length kb.uc, .slice kb.la kb.es.length kb.lc, .int .i64 R1.cap, .int .i64 R1.shift, .int .i64 R1.edge, .int .u32 R1.recent, .bool R1.stamps, .bool R1.sacks, .int .i64 R1.fin, .bool R1.dn, .slice kb.fa R1.first.length kb.fc, .int .u32 R1.irs, .int .u32 R1.own, .bool R1.stamp]
 | 2 => .bool true
 | 3 => .bool true
 | 4 => cond (true) (.slice da N dc) undef
 | 5 => cond (true) (.slice db N ec) undef
 | 6 => cond (true) (.bool true) undef
 | 7 => .bool true
 | 8 => .bool true
 | 9 => cond (true) (.agg #[.int .i64 T1.sp, .int .i64 T1.dp, .int .u32 T1.sq, .int .u32 T1.ak, .int .i64 T1.fl, .int .i64 T1.wn, .int .i64 T1.ur, .int .i64 T1.ms, .int .i64 T1.sc, .bool T1.so, .bool T1.st, .int .u32 T1.va, .int .u32 T1.ec, .slice sa.ka T1.sk.length sa.kc, .slice sa.da T1.da.length sa.dc]) undef
 | 10 => cond (true) (.agg #[.int .i64 T1.sp, .int .i64 T1.dp, .int .u32 T1.sq, .int .u32 T1.ak, .int .i64 T1.fl, .int .i64 T1.wn, .int .i64 T1.ur, .int .i64 T1.ms, .int .i64 T1.sc, .bool T1.so, .bool T1.st, .int .u32 T1.va, .int .u32 T1.ec, .slice sb.ka T1.sk.length sb.kc, .slice sb.da T1.da.length sb.dc]) undef
 | 11 => cond (true) (.bool true) undef
 | 12 => .bool true
 | 13 => .bool true
 | 14 => cond (true) (.bool q) undef
 | 15 => cond (true) (.bool q) undef
 | 16 => cond (true) (.bool true) undef
 | 17 => .bool true
 | 18 => .bool true
 | 19 => cond (true) (.int .i64 e1) undef
 | 20 => cond (true) (.int .i64 e1) undef
 | 21 => cond (true) (.bool true) undef
 | 22 => .bool true
 | 23 => .bool true
 | 24 => cond (true) (.agg #[.int .i64 R2.s.n, .slice kc.ua R2.s.u.length kc.uc, .slice kc.la kc.es.length kc.lc, .int .i64 R2.cap, .int .i64 R2.shift, .int .i64 R2.edge, .int .u32 R2.recent, .bool R2.stamps, .bool R2.sacks, .int .i64 R2.fin, .bool R2.dn, .slice kc.fa R2.first.length kc.fc, .int .u32 R2.irs, .int .u32 R2.own, .bool R2.stamp]) undef
 | 25 => cond (true) (.agg #[.int .i64 R2.s.n, .slice kd.ua R2.s.u.length kd.uc, .slice kd.la kd.es.length kd.lc, .int .i64 R2.cap, .int .i64 R2.shift, .int .i64 R2.edge, .int .u32 R2.recent, .bool R2.stamps, .bool R2.sacks, .int .i64 R2.fin, .bool R2.dn, .slice kd.fa R2.first.length kd.fc, .int .u32 R2.irs, .int .u32 R2.own, .bool R2.stamp]) undef
 | 26 => cond (true) (.bool true) undef
 | 27 => .bool true
 | 28 => .bool true
 | 29 => cond (true) (.agg #[.int .i64 T2.sp, .int .i64 T2.dp, .int .u32 T2.sq, .int .u32 T2.ak, .int .i64 T2.fl, .int .i64 T2.wn, .int .i64 T2.ur, .int .i64 T2.ms, .int .i64 T2.sc, .bool T2.so, .bool T2.st, .int .u32 T2.va, .int .u32 T2.ec, .slice sc.ka T2.sk.length sc.kc, .slice sc.da T2.da.length sc.dc]) undef
 | 30 => cond (true) (.agg #[.int .i64 T2.sp, .int .i64 T2.dp, .int .u32 T2.sq, .int .u32 T2.ak, .int .i64 T2.fl, .int .i64 T2.wn, .int .i64 T2.ur, .int .i64 T2.ms, .int .i64 T2.sc, .bool T2.so, .bool T2.st, .int .u32 T2.va, .int .u32 T2.ec, .slice sd.ka T2.sk.length sd.kc, .slice sd.da T2.da.length sd.dc]) undef
 | 31 => cond (true) (.bool true) undef
 | 32 => .bool true
 | 33 => .bool true
 | 34 => cond (true) (.agg #[.int .i64 r.s.n, .slice h.ua r.s.u.length h.uc, .slice h.la h.es.length h.lc, .int .i64 r.cap, .int .i64 r.shift, .int .i64 r.edge, .int .u32 r.recent, .bool r.stamps, .bool r.sacks, .int .i64 r.fin, .bool r.dn, .slice h.fa r.first.length h.fc, .int .u32 r.irs, .int .u32 r.own, .bool r.stamp]) undef
 | 35 => cond (true) (.int .i64 wd) undef
 | 36 => cond (true) (.agg #[.int .i64 r.s.n, .slice h.ua r.s.u.length h.uc, .slice h.la h.es.length h.lc, .int .i64 r.cap, .int .i64 r.shift, .int .i64 r.edge, .int .u32 r.recent, .bool r.stamps, .bool r.sacks, .int .i64 r.fin, .bool r.dn, .slice h.fa r.first.length h.fc, .int .u32 r.irs, .int .u32 r.own, .bool r.stamp]) undef
 | 37 => cond (true) (.int .i64 wd) undef
 | 38 => cond (true) (.bool true) undef
 | 39 => .bool true
 | 40 => .bool true
 | 41 => cond (true) (.bool true) undef
 | 42 => .bool true
 | 43 => .bool true
 | _ => undef
set_option maxRecDepth 100000 in
set_option maxHeartbeats 4000000 in
theorem rds5_reg {ps : String} {Q : Exit → Act → World → Prop} {a0 : Act} {W0 : World} (sz : a0.tmps.size = 90) (r R1 R2 : Pl.Rv) (h ka kb kc kd : Hd) (T1 T2 : Seg) (sa sb sc sd : Hs) (g p1 p2 q1 q2 p3 p4 q3 q4 : Nat) (da db : Option Addr) (N dc ec : Nat) (q : Bool) (e1 wd : Int)
 (e2 : a0.eval (.tmp 2) = .pointer (some ⟨g, 0, none⟩)) (e5 : a0.eval (.tmp 5) = .pointer (some ⟨p1, 0, none⟩)) (e6 : a0.eval (.tmp 6) = .slice da N dc) (e7 : a0.eval (.tmp 7) = .pointer (some ⟨q1, 0, none⟩)) (e8 : a0.eval (.tmp 8) = .bool q) (e9 : a0.eval (.tmp 9) = .int .i64 e1) (e10 : a0.eval (.tmp 10) = .pointer (some ⟨p2, 0, none⟩)) (e11 : a0.eval (.tmp 11) = .slice db N ec) (e12 : a0.eval (.tmp 12) = .pointer (some ⟨q2, 0, none⟩)) (e13 : a0.eval (.tmp 13) = .bool q) (e14 : a0.eval (.tmp 14) = .int .i64 e1) (e15 : a0.eval (.tmp 15) = .pointer (some ⟨p3, 0, none⟩)) (e16 : a0.eval (.tmp 16) = .pointer (some ⟨q3, 0, none⟩)) (e17 : a0.eval (.tmp 17) = .pointer (some ⟨p4, 0, none⟩)) (e18 : a0.eval (.tmp 18) = .pointer (some ⟨q4, 0, none⟩))
 {X4 : World} (c1 : ∀ W, Below X4.heap.size X4 W → Calls Try.prog 16 #[.agg #[.int .i64 R1.s.n, .slice ka.ua R1.s.u.length ka.uc, .slice ka.la ka.es.length ka.lc, .int .i64 R1.cap, .int .i64 R1.shift, .int .i64 R1.edge, .int .u32 R1.recent, .bool R1.stamps, .bool R1.sacks, .int .i64 R1.fin, .bool R1.dn, .slice ka.fa R1.first.length ka.fc, .int .u32 R1.irs, .int .u32 R1.own, .bool R1.stamp], .agg #[.int .i64 R1.s.n, .slice kb.ua R1.s.u.length kb.uc, .slice kb.la kb.es.length kb.lc, .int .i64 R1.cap, .int .i64 R1.shift, .int .i64 R1.edge, .int .u32 R1.recent, .bool R1.stamps, .bool R1.sacks, .int .i64 R1.fin, .bool R1.dn, .slice kb.fa R1.first.length kb.fc, .int .u32 R1.irs, .int .u32 R1.own, .bool R1.stamp]] W fun e w' => e = .returned (.bool true) ∧ Below W.heap.size W w') (c2 : ∀ W, Below X4.heap.size X4 W → Calls Try.prog 21 #[.slice da N dc, .slice db N ec] W fun e w' => e = .returned (.bool true) ∧ Below W.heap.size W w') (c3 : ∀ W, Below X4.heap.size X4 W → Calls Try.prog 17 #[.agg #[.int .i64 T1.sp, .int .i64 T1.dp, .int .u32 T1.sq, .int .u32 T1.ak, .int .i64 T1.fl, .int .i64 T1.wn, .int .i64 T1.ur, .int .i64 T1.ms, .int .i64 T1.sc, .bool T1.so, .bool T1.st, .int .u32 T1.va, .int .u32 T1.ec, .slice sa.ka T1.sk.length sa.kc, .slice sa.da T1.da.length sa.dc], .agg #[.int .i64 T1.sp, .int .i64 T1.dp, .int .u32 T1.sq, .int .u32 T1.ak, .int .i64 T1.fl, .int .i64 T1.wn, .int .i64 T1.ur, .int .i64 T1.ms, .int .i64 T1.sc, .bool T1.so, .bool T1.st, .int .u32 T1.va, .int .u32 T1.ec, .slice sb.ka T1.sk.length sb.kc, .slice sb.da T1.da.length sb.dc]] W fun e w' => e = .returned (.bool true) ∧ Below W.heap.size W w') (c4 : ∀ W, Below X4.heap.size X4 W → Calls Try.prog 16 #[.agg #[.int .i64 R2.s.n, .slice kc.ua R2.s.u.length kc.uc, .slice kc.la kc.es.length kc.lc, .int .i64 R2.cap, .int .i64 R2.shift, .int .i64 R2.edge, .int .u32 R2.recent, .bool R2.stamps, .bool R2.sacks, .int .i64 R2.fin, .bool R2.dn, .slice kc.fa R2.first.length kc.fc, .int .u32 R2.irs, .int .u32 R2.own, .bool R2.stamp], .agg #[.int .i64 R2.s.n, .slice kd.ua R2.s.u.length kd.uc, .slice kd.la kd.es.length kd.lc, .int .i64 R2.cap, .int .i64 R2.shift, .int .i64 R2.edge, .int .u32 R2.recent, .bool R2.stamps, .bool R2.sacks, .int .i64 R2.fin, .bool R2.dn, .slice kd.fa R2.first.length kd.fc, .int .u32 R2.irs, .int .u32 R2.own, .bool R2.stamp]] W fun e w' => e = .returned (.bool true) ∧ Below W.heap.size W w') (c5 : ∀ W, Below X4.heap.size X4 W → Calls Try.prog 17 #[.agg #[.int .i64 T2.sp, .int .i64 T2.dp, .int .u32 T2.sq, .int .u32 T2.ak, .int .i64 T2.fl, .int .i64 T2.wn, .int .i64 T2.ur, .int .i64 T2.ms, .int .i64 T2.sc, .bool T2.so, .bool T2.st, .int .u32 T2.va, .int .u32 T2.ec, .slice sc.ka T2.sk.length sc.kc, .slice sc.da T2.da.length sc.dc], .agg #[.int .i64 T2.sp, .int .i64 T2.dp, .int .u32 T2.sq, .int .u32 T2.ak, .int .i64 T2.fl, .int .i64 T2.wn, .int .i64 T2.ur, .int .i64 T2.ms, .int .i64 T2.sc, .bool T2.so, .bool T2.st, .int .u32 T2.va, .int .u32 T2.ec, .slice sd.ka T2.sk.length sd.kc, .slice sd.da T2.da.length sd.dc]] W fun e w' => e = .returned (.bool true) ∧ Below W.heap.size W w') (c6 : ∀ W, Below X4.heap.size X4 W → Calls Try.prog 10 #[.agg #[.int .i64 r.s.n, .slice h.ua r.s.u.length h.uc, .slice h.la h.es.length h.lc, .int .i64 r.cap, .int .i64 r.shift, .int .i64 r.edge, .int .u32 r.recent, .bool r.stamps, .bool r.sacks, .int .i64 r.fin, .bool r.dn, .slice h.fa r.first.length h.fc, .int .u32 r.irs, .int .u32 r.own, .bool r.stamp]] W fun e w' => e = .returned (.int .i64 wd) ∧ Below W.heap.size W w') (c7 : ∀ W, Below X4.heap.size X4 W → Calls Try.prog 22 #[.agg #[.int .i64 r.s.n, .slice h.ua r.s.u.length h.uc, .slice h.la h.es.length h.lc, .int .i64 r.cap, .int .i64 r.shift, .int .i64 r.edge, .int .u32 r.recent, .bool r.stamps, .bool r.sacks, .int .i64 r.fin, .bool r.dn, .slice h.fa r.first.length h.fc, .int .u32 r.irs, .int .u32 r.own, .bool r.stamp]] W fun e w' => e = .returned (.int .i64 wd) ∧ Below W.heap.size W w') (c8 : ∀ W, Below X4.heap.size X4 W → Calls Try.prog 11 #[] W fun e w' => e = .returned (.bool true) ∧ Below W.heap.size W w') (hS : (fun w => Box w g 27 (rvL r h) ∧ Box w p1 27 (rvL R1 ka) ∧ Box w p2 27 (rvL R1 kb) ∧ Box w q1 34 [.int .i64 T1.sp, .int .i64 T1.dp, .int .u32 T1.sq, .int .u32 T1.ak, .int .i64 T1.fl, .int .i64 T1.wn, .int .i64 T1.ur, .int .i64 T1.ms, .int .i64 T1.sc, .bool T1.so, .bool T1.st, .int .u32 T1.va, .int .u32 T1.ec, .slice sa.ka T1.sk.length sa.kc, .slice sa.da T1.da.length sa.dc] ∧ Box w q2 34 [.int .i64 T1.sp, .int .i64 T1.dp, .int .u32 T1.sq, .int .u32 T1.ak, .int .i64 T1.fl, .int .i64 T1.wn, .int .i64 T1.ur, .int .i64 T1.ms, .int .i64 T1.sc, .bool T1.so, .bool T1.st, .int .u32 T1.va, .int .u32 T1.ec, .slice sb.ka T1.sk.length sb.kc, .slice sb.da T1.da.length sb.dc] ∧ Box w p3 27 (rvL R2 kc) ∧ Box w p4 27 (rvL R2 kd) ∧ Box w q3 34 [.int .i64 T2.sp, .int .i64 T2.dp, .int .u32 T2.sq, .int .u32 T2.ak, .int .i64 T2.fl, .int .i64 T2.wn, .int .i64 T2.ur, .int .i64 T2.ms, .int .i64 T2.sc, .bool T2.so, .bool T2.st, .int .u32 T2.va, .int .u32 T2.ec, .slice sc.ka T2.sk.length sc.kc, .slice sc.da T2.da.length sc.dc] ∧ Box w q4 34 [.int .i64 T2.sp, .int .i64 T2.dp, .int .u32 T2.sq, .int .u32 T2.ak, .int .i64 T2.fl, .int .i64 T2.wn, .int .i64 T2.ur, .int .i64 T2.ms, .int .i64 T2.sc, .bool T2.so, .bool T2.st, .int .u32 T2.va, .int .u32 T2.ec, .slice sd.ka T2.sk.length sd.kc, .slice sd.da T2.da.length sd.dc] ∧ Below X4.heap.size X4 w) W0.drew)

 (hfin : ∀ (T : Nat → Value) w, T 43 = .bool true → (fun w => Box w g 27 (rvL r h) ∧ Box w p1 27 (rvL R1 ka) ∧ Box w p2 27 (rvL R1 kb) ∧ Box w q1 34 [.int .i64 T1.sp, .int .i64 T1.dp, .int .u32 T1.sq, .int .u32 T1.ak, .int .i64 T1.fl, .int .i64 T1.wn, .int .i64 T1.ur, .int .i64 T1.ms, .int .i64 T1.sc, .bool T1.so, .bool T1.st, .int .u32 T1.va, .int .u32 T1.ec, .slice sa.ka T1.sk.length sa.kc, .slice sa.da T1.da.length sa.dc] ∧ Box w q2 34 [.int .i64 T1.sp, .int .i64 T1.dp, .int .u32 T1.sq, .int .u32 T1.ak, .int .i64 T1.fl, .int .i64 T1.wn, .int .i64 T1.ur, .int .i64 T1.ms, .int .i64 T1.sc, .bool T1.so, .bool T1.st, .int .u32 T1.va, .int .u32 T1.ec, .slice sb.ka T1.sk.length sb.kc, .slice sb.da T1.da.length sb.dc] ∧ Box w p3 27 (rvL R2 kc) ∧ Box w p4 27 (rvL R2 kd) ∧ Box w q3 34 [.int .i64 T2.sp, .int .i64 T2.dp, .int .u32 T2.sq, .int .u32 T2.ak, .int .i64 T2.fl, .int .i64 T2.wn, .int .i64 T2.ur, .int .i64 T2.ms, .int .i64 T2.sc, .bool T2.so, .bool T2.st, .int .u32 T2.va, .int .u32 T2.ec, .slice sc.ka T2.sk.length sc.kc, .slice sc.da T2.da.length sc.dc] ∧ Box w q4 34 [.int .i64 T2.sp, .int .i64 T2.dp, .int .u32 T2.sq, .int .u32 T2.ak, .int .i64 T2.fl, .int .i64 T2.wn, .int .i64 T2.ur, .int .i64 T2.ms, .int .i64 T2.sc, .bool T2.so, .bool T2.st, .int .u32 T2.va, .int .u32 T2.ec, .slice sd.ka T2.sk.length sd.kc, .slice sd.da T2.da.length sd.dc] ∧ Below X4.heap.size X4 w) w → Q .normal ((((((((((((((((((((((((((((((((((((((((((((a0.put (some 47) (T 0)).put (some 48) (T 1)).put (some 49) (T 2)).put (some 50) (T 3)).put (some 51) (T 4)).put (some 52) (T 5)).put (some 53) (T 6)).put (some 54) (T 7)).put (some 55) (T 8)).put (some 56) (T 9)).put (some 57) (T 10)).put (some 58) (T 11)).put (some 59) (T 12)).put (some 60) (T 13)).put (some 61) (T 14)).put (some 62) (T 15)).put (some 63) (T 16)).put (some 64) (T 17)).put (some 65) (T 18)).put (some 66) (T 19)).put (some 67) (T 20)).put (some 68) (T 21)).put (some 69) (T 22)).put (some 70) (T 23)).put (some 71) (T 24)).put (some 72) (T 25)).put (some 73) (T 26)).put (some 74) (T 27)).put (some 75) (T 28)).put (some 76) (T 29)).put (some 77) (T 30)).put (some 78) (T 31)).put (some 79) (T 32)).put (some 80) (T 33)).put (some 81) (T 34)).put (some 82) (T 35)).put (some 83) (T 36)).put (some 84) (T 37)).put (some 85) (T 38)).put (some 86) (T 39)).put (some 87) (T 40)).put (some 88) (T 41)).put (some 89) (T 42)).put (some 4) (T 43)) w) :
 (Code.region 5 (rds5 ps) true).wp Try.prog Q a0 W0 := by
 refine zb5 (by kernel_rfl) 44 rfl rds5D ?_ (by decide) (rds5T r R1 R2 h ka kb kc kd T1 T2 sa sb sc sd g p1 p2 q1 q2 p3 p4 q3 q4 da db N dc ec q e1 wd ) (fun w => Box w g 27 (rvL r h) ∧ Box w p1 27 (rvL R1 ka) ∧ Box w p2 27 (rvL R1 kb) ∧ Box w q1 34 [.int .i64 T1.sp, .int .i64 T1.dp, .int .u32 T1.sq, .int .u32 T1.ak, .int .i64 T1.fl, .int .i64 T1.wn, .int .i64 T1.ur, .int .i64 T1.ms, .int .i64 T1.sc, .bool T1.so, .bool T1.st, .int .u32 T1.va, .int .u32 T1.ec, .slice sa.ka T1.sk.length sa.kc, .slice sa.da T1.da.length sa.dc] ∧ Box w q2 34 [.int .i64 T1.sp, .int .i64 T1.dp, .int .u32 T1.sq, .int .u32 T1.ak, .int .i64 T1.fl, .int .i64 T1.wn, .int .i64 T1.ur, .int .i64 T1.ms, .int .i64 T1.sc, .bool T1.so, .bool T1.st, .int .u32 T1.va, .int .u32 T1.ec, .slice sb.ka T1.sk.length sb.kc, .slice sb.da T1.da.length sb.dc] ∧ Box w p3 27 (rvL R2 kc) ∧ Box w p4 27 (rvL R2 kd) ∧ Box w q3 34 [.int .i64 T2.sp, .int .i64 T2.dp, .int .u32 T2.sq, .int .u32 T2.ak, .int .i64 T2.fl, .int .i64 T2.wn, .int .i64 T2.ur, .int .i64 T2.ms, .int .i64 T2.sc, .bool T2.so, .bool T2.st, .int .u32 T2.va, .int .u32 T2.ec, .slice sc.ka T2.sk.length sc.kc, .slice sc.da T2.da.length sc.dc] ∧ Box w q4 34 [.int .i64 T2.sp, .int .i64 T2.dp, .int .u32 T2.sq, .int .u32 T2.ak, .int .i64 T2.fl, .int .i64 T2.wn, .int .i64 T2.ur, .int .i64 T2.ms, .int .i64 T2.sc, .bool T2.so, .bool T2.st, .int .u32 T2.va, .int .u32 T2.ec, .slice sd.ka T2.sk.length sd.kc, .slice sd.da T2.da.length sd.dc] ∧ Below X4.heap.size X4 w) hS ?_ (by rfl) (fun w hSw => hfin (rds5T r R1 R2 h ka kb kc kd T1 T2 sa sb sc sd g p1 p2 q1 q2 p3 p4 q3 q4 da db N dc ec q e1 wd ) w rfl hSw)
 · intro jq t hj ht
   have : ∀ j, j < 44 → (rds5D j).all (· < 90) = true := by decide
   have := this jq hj
   rw [ht] at this
   rw [sz]
   simpa using this
 · intro iq o ho a w hSw hs hel K hK
   have hin : iq < 44 := (Array.getElem?_eq_some_iff.1 ho).1
   match iq, hin, ho with
   | 0, _, ho =>
    as_aux_lemma =>
     obtain rfl := Option.some.inj (ho.symm.trans (rds5_0 ps))
     have u5 : a.eval (.tmp 5) = .pointer (some ⟨p1, 0, none⟩) := (hel 5 (by decide)).trans e5
     have hcl := Box.c15 hSw.2.1
     skip
     exact zae (rds5_0 ps) rfl (by unfold rds5O0 execOp; simp only [u5, rds5T, cond_true, cond_false, Bool.not_true, Bool.not_false, Bool.and_true, Bool.true_and, Bool.and_false, Bool.false_and]; first | (go_simp; done) | (go_simp; with_reducible rfl)) (hK w hSw)
   | 1, _, ho =>
    as_aux_lemma =>
     obtain rfl := Option.some.inj (ho.symm.trans (rds5_1 ps))
     have u10 : a.eval (.tmp 10) = .pointer (some ⟨p2, 0, none⟩) := (hel 10 (by decide)).trans e10
     have hcl := Box.c15 hSw.2.2.1
     skip
     exact zae (rds5_1 ps) rfl (by unfold rds5O1 execOp; simp only [u10, rds5T, cond_true, cond_false, Bool.not_true, Bool.not_false, Bool.and_true, Bool.true_and, Bool.and_false, Bool.false_and]; first | (go_simp; done) | (go_simp; with_reducible rfl)) (hK w hSw)
   | 2, _, ho =>
    as_aux_lemma =>
     obtain rfl := Option.some.inj (ho.symm.trans (rds5_2 ps))
     have s0 := hs 0 47 (by rfl) rfl
     have s1 := hs 1 48 (by rfl) rfl
     (try simp only [rds5T, cond_true, cond_false, Bool.not_true, Bool.not_false, Bool.and_true, Bool.true_and, Bool.and_false, Bool.false_and] at s0 s1)
     exact zbh (rds5_2 ps) rfl (f := 16) (args := #[.agg #[.int .i64 R1.s.n, .slice ka.ua R1.s.u.length ka.uc, .slice ka.la ka.es.length ka.lc, .int .i64 R1.cap, .int .i64 R1.shift, .int .i64 R1.edge, .int .u32 R1.recent, .bool R1.stamps, .bool R1.sacks, .int .i64 R1.fin, .bool R1.dn, .slice ka.fa R1.first.length ka.fc, .int .u32 R1.irs, .int .u32 R1.own, .bool R1.stamp], .agg #[.int .i64 R1.s.n, .slice kb.ua R1.s.u.length kb.uc, .slice kb.la kb.es.length kb.lc, .int .i64 R1.cap, .int .i64 R1.shift, .int .i64 R1.edge, .int .u32 R1.recent, .bool R1.stamps, .bool R1.sacks, .int .i64 R1.fin, .bool R1.dn, .slice kb.fa R1.first.length kb.fc, .int .u32 R1.irs, .int .u32 R1.own, .bool R1.stamp]]) (by rw [zbp rfl zfl]; simp only [List.map_toArray, List.map_cons, List.map_nil, s0, s1]; try rfl) ((c1 w hSw.2.2.2.2.2.2.2.2.2).mono (fun e w' hh => ⟨_, hh.1, hK w' ⟨hSw.1.later hh.2, hSw.2.1.later hh.2, hSw.2.2.1.later hh.2, hSw.2.2.2.1.later hh.2, hSw.2.2.2.2.1.later hh.2, hSw.2.2.2.2.2.1.later hh.2, hSw.2.2.2.2.2.2.1.later hh.2, hSw.2.2.2.2.2.2.2.1.later hh.2, hSw.2.2.2.2.2.2.2.2.1.later hh.2, Below.on hSw.2.2.2.2.2.2.2.2.2 hh.2⟩⟩))
   | 3, _, ho =>
    as_aux_lemma =>
     obtain rfl := Option.some.inj (ho.symm.trans (zeo ps))
     have s2 := hs 2 49 (by rfl) rfl
     (try simp only [rds5T, cond_true, cond_false, Bool.not_true, Bool.not_false, Bool.and_true, Bool.true_and, Bool.and_false, Bool.false_and] at s2)
     exact zae (zeo ps) rfl (by unfold rds5O3 execOp; simp only [s2, rds5T, cond_true, cond_false, Bool.not_true, Bool.not_false, Bool.and_true, Bool.true_and, Bool.and_false, Bool.false_and]; first | (go_simp; done) | (go_simp; with_reducible rfl)) (hK w hSw)
   | 4, _, ho =>
    as_aux_lemma =>
     obtain rfl := Option.some.inj (ho.symm.trans (rds5_4 ps))
     have s3 := hs 3 50 (by rfl) rfl
     have u6 : a.eval (.tmp 6) = .slice da N dc := (hel 6 (by decide)).trans e6
     (try simp only [rds5T, cond_true, cond_false, Bool.not_true, Bool.not_false, Bool.and_true, Bool.true_and, Bool.and_false, Bool.false_and] at s3)
     first | (exact zaj (rds5_4 ps) (by rw [zab rfl (zeo ps) rfl s3]; rfl) (hK w hSw)) | (exact zae (rds5_4 ps) (by rw [zab rfl (zeo ps) rfl s3]; rfl) (by unfold rds5O4 execOp; simp only [u6, rds5T, cond_true, cond_false, Bool.not_true, Bool.not_false, Bool.and_true, Bool.true_and, Bool.and_false, Bool.false_and]; first | (go_simp; done) | (go_simp; with_reducible rfl)) (hK w hSw))
   | 5, _, ho =>
    as_aux_lemma =>
     obtain rfl := Option.some.inj (ho.symm.trans (rds5_5 ps))
     have s3 := hs 3 50 (by rfl) rfl
     have u11 : a.eval (.tmp 11) = .slice db N ec := (hel 11 (by decide)).trans e11
     (try simp only [rds5T, cond_true, cond_false, Bool.not_true, Bool.not_false, Bool.and_true, Bool.true_and, Bool.and_false, Bool.false_and] at s3)
     first | (exact zaj (rds5_5 ps) (by rw [zab rfl (zeo ps) rfl s3]; rfl) (hK w hSw)) | (exact zae (rds5_5 ps) (by rw [zab rfl (zeo ps) rfl s3]; rfl) (by unfold rds5O5 execOp; simp only [u11, rds5T, cond_true, cond_false, Bool.not_true, Bool.not_false, Bool.and_true, Bool.true_and, Bool.and_false, Bool.false_and]; first | (go_simp; done) | (go_simp; with_reducible rfl)) (hK w hSw))
   | 6, _, ho =>
    as_aux_lemma =>
     obtain rfl := Option.some.inj (ho.symm.trans (rds5_6 ps))
     have s4 := hs 4 51 (by rfl) rfl
     have s5 := hs 5 52 (by rfl) rfl
     have s3 := hs 3 50 (by rfl) rfl
     (try simp only [rds5T, cond_true, cond_false, Bool.not_true, Bool.not_false, Bool.and_true, Bool.true_and, Bool.and_false, Bool.false_and] at s4 s5 s3)
     first | (exact zaj (rds5_6 ps) (by rw [zab rfl (zeo ps) rfl s3]; rfl) (hK w hSw)) | (exact zbh (rds5_6 ps) (by rw [zab rfl (zeo ps) rfl s3]; rfl) (f := 21) (args := #[.slice da N dc, .slice db N ec]) (by rw [zbp rfl enter_sameB]; simp only [List.map_toArray, List.map_cons, List.map_nil, s4, s5]; try rfl) ((c2 w hSw.2.2.2.2.2.2.2.2.2).mono (fun e w' hh => ⟨_, hh.1, hK w' ⟨hSw.1.later hh.2, hSw.2.1.later hh.2, hSw.2.2.1.later hh.2, hSw.2.2.2.1.later hh.2, hSw.2.2.2.2.1.later hh.2, hSw.2.2.2.2.2.1.later hh.2, hSw.2.2.2.2.2.2.1.later hh.2, hSw.2.2.2.2.2.2.2.1.later hh.2, hSw.2.2.2.2.2.2.2.2.1.later hh.2, Below.on hSw.2.2.2.2.2.2.2.2.2 hh.2⟩⟩)))
   | 7, _, ho =>
    as_aux_lemma =>
     obtain rfl := Option.some.inj (ho.symm.trans (rds5_7 ps))
     have s3 := hs 3 50 (by rfl) rfl
     have s6 := hs 6 53 (by rfl) rfl
     (try simp only [rds5T, cond_true, cond_false, Bool.not_true, Bool.not_false, Bool.and_true, Bool.true_and, Bool.and_false, Bool.false_and] at s3 s6)
     exact zae (rds5_7 ps) rfl (by unfold rds5O7 execOp; simp only [s3, s6, rds5T, cond_true, cond_false, Bool.not_true, Bool.not_false, Bool.and_true, Bool.true_and, Bool.and_false, Bool.false_and]; first | (go_simp; done) | (go_simp; with_reducible rfl)) (hK w hSw)
   | 8, _, ho =>
    as_aux_lemma =>
     obtain rfl := Option.some.inj (ho.symm.trans (zen ps))
     have s7 := hs 7 54 (by rfl) rfl
     (try simp only [rds5T, cond_true, cond_false, Bool.not_true, Bool.not_false, Bool.and_true, Bool.true_and, Bool.and_false, Bool.false_and] at s7)
     exact zae (zen ps) rfl (by unfold rds5O8 execOp; simp only [s7, rds5T, cond_true, cond_false, Bool.not_true, Bool.not_false, Bool.and_true, Bool.true_and, Bool.and_false, Bool.false_and]; first | (go_simp; done) | (go_simp; with_reducible rfl)) (hK w hSw)
   | 9, _, ho =>
    as_aux_lemma =>
     obtain rfl := Option.some.inj (ho.symm.trans (rds5_9 ps))
     have s8 := hs 8 55 (by rfl) rfl
     have u7 : a.eval (.tmp 7) = .pointer (some ⟨q1, 0, none⟩) := (hel 7 (by decide)).trans e7
     have hcl := Box.c15 hSw.2.2.2.1
     (try simp only [rds5T, cond_true, cond_false, Bool.not_true, Bool.not_false, Bool.and_true, Bool.true_and, Bool.and_false, Bool.false_and] at s8)
     first | (exact zaj (rds5_9 ps) (by rw [zab rfl (zen ps) rfl s8]; rfl) (hK w hSw)) | (exact zae (rds5_9 ps) (by rw [zab rfl (zen ps) rfl s8]; rfl) (by unfold rds5O9 execOp; simp only [u7, rds5T, cond_true, cond_false, Bool.not_true, Bool.not_false, Bool.and_true, Bool.true_and, Bool.and_false, Bool.false_and]; first | (go_simp; done) | (go_simp; with_reducible rfl)) (hK w hSw))
   | 10, _, ho =>
    as_aux_lemma =>
     obtain rfl := Option.some.inj (ho.symm.trans (rds5_10 ps))
     have s8 := hs 8 55 (by rfl) rfl
     have u12 : a.eval (.tmp 12) = .pointer (some ⟨q2, 0, none⟩) := (hel 12 (by decide)).trans e12
     have hcl := Box.c15 hSw.2.2.2.2.1
     (try simp only [rds5T, cond_true, cond_false, Bool.not_true, Bool.not_false, Bool.and_true, Bool.true_and, Bool.and_false, Bool.false_and] at s8)
     first | (exact zaj (rds5_10 ps) (by rw [zab rfl (zen ps) rfl s8]; rfl) (hK w hSw)) | (exact zae (rds5_10 ps) (by rw [zab rfl (zen ps) rfl s8]; rfl) (by unfold rds5O10 execOp; simp only [u12, rds5T, cond_true, cond_false, Bool.not_true, Bool.not_false, Bool.and_true, Bool.true_and, Bool.and_false, Bool.false_and]; first | (go_simp; done) | (go_simp; with_reducible rfl)) (hK w hSw))
   | 11, _, ho =>
    as_aux_lemma =>
     obtain rfl := Option.some.inj (ho.symm.trans (rds5_11 ps))
     have s9 := hs 9 56 (by rfl) rfl
     have s10 := hs 10 57 (by rfl) rfl
     have s8 := hs 8 55 (by rfl) rfl
     (try simp only [rds5T, cond_true, cond_false, Bool.not_true, Bool.not_false, Bool.and_true, Bool.true_and, Bool.and_false, Bool.false_and] at s9 s10 s8)
     first | (exact zaj (rds5_11 ps) (by rw [zab rfl (zen ps) rfl s8]; rfl) (hK w hSw)) | (exact zbh (rds5_11 ps) (by rw [zab rfl (zen ps) rfl s8]; rfl) (f := 17) (args := #[.agg #[.int .i64 T1.sp, .int .i64 T1.dp, .int .u32 T1.sq, .int .u32 T1.ak, .int .i64 T1.fl, .int .i64 T1.wn, .int .i64 T1.ur, .int .i64 T1.ms, .int .i64 T1.sc, .bool T1.so, .bool T1.st, .int .u32 T1.va, .int .u32 T1.ec, .slice sa.ka T1.sk.length sa.kc, .slice sa.da T1.da.length sa.dc], .agg #[.int .i64 T1.sp, .int .i64 T1.dp, .int .u32 T1.sq, .int .u32 T1.ak, .int .i64 T1.fl, .int .i64 T1.wn, .int .i64 T1.ur, .int .i64 T1.ms, .int .i64 T1.sc, .bool T1.so, .bool T1.st, .int .u32 T1.va, .int .u32 T1.ec, .slice sb.ka T1.sk.length sb.kc, .slice sb.da T1.da.length sb.dc]]) (by rw [zbp rfl zfk]; simp only [List.map_toArray, List.map_cons, List.map_nil, s9, s10]; try rfl) ((c3 w hSw.2.2.2.2.2.2.2.2.2).mono (fun e w' hh => ⟨_, hh.1, hK w' ⟨hSw.1.later hh.2, hSw.2.1.later hh.2, hSw.2.2.1.later hh.2, hSw.2.2.2.1.later hh.2, hSw.2.2.2.2.1.later hh.2, hSw.2.2.2.2.2.1.later hh.2, hSw.2.2.2.2.2.2.1.later hh.2, hSw.2.2.2.2.2.2.2.1.later hh.2, hSw.2.2.2.2.2.2.2.2.1.later hh.2, Below.on hSw.2.2.2.2.2.2.2.2.2 hh.2⟩⟩)))
   | 12, _, ho =>
    as_aux_lemma =>
     obtain rfl := Option.some.inj (ho.symm.trans (rds5_12 ps))
     have s8 := hs 8 55 (by rfl) rfl
     have s11 := hs 11 58 (by rfl) rfl
     (try simp only [rds5T, cond_true, cond_false, Bool.not_true, Bool.not_false, Bool.and_true, Bool.true_and, Bool.and_false, Bool.false_and] at s8 s11)
     exact zae (rds5_12 ps) rfl (by unfold rds5O12 execOp; simp only [s8, s11, rds5T, cond_true, cond_false, Bool.not_true, Bool.not_false, Bool.and_true, Bool.true_and, Bool.and_false, Bool.false_and]; first | (go_simp; done) | (go_simp; with_reducible rfl)) (hK w hSw)
   | 13, _, ho =>
    as_aux_lemma =>
     obtain rfl := Option.some.inj (ho.symm.trans (zc3 ps))
     have s12 := hs 12 59 (by rfl) rfl
     (try simp only [rds5T, cond_true, cond_false, Bool.not_true, Bool.not_false, Bool.and_true, Bool.true_and, Bool.and_false, Bool.false_and] at s12)
     exact zae (zc3 ps) rfl (by unfold rds5O13 execOp; simp only [s12, rds5T, cond_true, cond_false, Bool.not_true, Bool.not_false, Bool.and_true, Bool.true_and, Bool.and_false, Bool.false_and]; first | (go_simp; done) | (go_simp; with_reducible rfl)) (hK w hSw)
   | 14, _, ho =>
    as_aux_lemma =>
     obtain rfl := Option.some.inj (ho.symm.trans (rds5_14 ps))
     have s13 := hs 13 60 (by rfl) rfl
     have u8 : a.eval (.tmp 8) = .bool q := (hel 8 (by decide)).trans e8
     (try simp only [rds5T, cond_true, cond_false, Bool.not_true, Bool.not_false, Bool.and_true, Bool.true_and, Bool.and_false, Bool.false_and] at s13)
     first | (exact zaj (rds5_14 ps) (by rw [zab rfl (zc3 ps) rfl s13]; rfl) (hK w hSw)) | (exact zae (rds5_14 ps) (by rw [zab rfl (zc3 ps) rfl s13]; rfl) (by unfold rds5O14 execOp; simp only [u8, rds5T, cond_true, cond_false, Bool.not_true, Bool.not_false, Bool.and_true, Bool.true_and, Bool.and_false, Bool.false_and]; first | (go_simp; done) | (go_simp; with_reducible rfl)) (hK w hSw))
   | 15, _, ho =>
    as_aux_lemma =>
     obtain rfl := Option.some.inj (ho.symm.trans (rds5_15 ps))
     have s13 := hs 13 60 (by rfl) rfl
     have u13 : a.eval (.tmp 13) = .bool q := (hel 13 (by decide)).trans e13
     (try simp only [rds5T, cond_true, cond_false, Bool.not_true, Bool.not_false, Bool.and_true, Bool.true_and, Bool.and_false, Bool.false_and] at s13)
     first | (exact zaj (rds5_15 ps) (by rw [zab rfl (zc3 ps) rfl s13]; rfl) (hK w hSw)) | (exact zae (rds5_15 ps) (by rw [zab rfl (zc3 ps) rfl s13]; rfl) (by unfold rds5O15 execOp; simp only [u13, rds5T, cond_true, cond_false, Bool.not_true, Bool.not_false, Bool.and_true, Bool.true_and, Bool.and_false, Bool.false_and]; first | (go_simp; done) | (go_simp; with_reducible rfl)) (hK w hSw))
   | 16, _, ho =>
    as_aux_lemma =>
     obtain rfl := Option.some.inj (ho.symm.trans (rds5_16 ps))
     have s14 := hs 14 61 (by rfl) rfl
     have s15 := hs 15 62 (by rfl) rfl
     have s13 := hs 13 60 (by rfl) rfl
     (try simp only [rds5T, cond_true, cond_false, Bool.not_true, Bool.not_false, Bool.and_true, Bool.true_and, Bool.and_false, Bool.false_and] at s14 s15 s13)
     first | (exact zaj (rds5_16 ps) (by rw [zab rfl (zc3 ps) rfl s13]; rfl) (hK w hSw)) | (exact zae (rds5_16 ps) (by rw [zab rfl (zc3 ps) rfl s13]; rfl) (by unfold rds5O16 execOp; simp only [s14, s15, rds5T, cond_true, cond_false, Bool.not_true, Bool.not_false, Bool.and_true, Bool.true_and, Bool.and_false, Bool.false_and]; first | (go_simp; done) | (go_simp; with_reducible rfl)) (hK w hSw))
   | 17, _, ho =>
    as_aux_lemma =>
     obtain rfl := Option.some.inj (ho.symm.trans (rds5_17 ps))
     have s13 := hs 13 60 (by rfl) rfl
     have s16 := hs 16 63 (by rfl) rfl
     (try simp only [rds5T, cond_true, cond_false, Bool.not_true, Bool.not_false, Bool.and_true, Bool.true_and, Bool.and_false, Bool.false_and] at s13 s16)
     exact zae (rds5_17 ps) rfl (by unfold rds5O17 execOp; simp only [s13, s16, rds5T, cond_true, cond_false, Bool.not_true, Bool.not_false, Bool.and_true, Bool.true_and, Bool.and_false, Bool.false_and]; first | (go_simp; done) | (go_simp; with_reducible rfl)) (hK w hSw)
   | 18, _, ho =>
    as_aux_lemma =>
     obtain rfl := Option.some.inj (ho.symm.trans (zc2 ps))
     have s17 := hs 17 64 (by rfl) rfl
     (try simp only [rds5T, cond_true, cond_false, Bool.not_true, Bool.not_false, Bool.and_true, Bool.true_and, Bool.and_false, Bool.false_and] at s17)
     exact zae (zc2 ps) rfl (by unfold rds5O18 execOp; simp only [s17, rds5T, cond_true, cond_false, Bool.not_true, Bool.not_false, Bool.and_true, Bool.true_and, Bool.and_false, Bool.false_and]; first | (go_simp; done) | (go_simp; with_reducible rfl)) (hK w hSw)
   | 19, _, ho =>
    as_aux_lemma =>
     obtain rfl := Option.some.inj (ho.symm.trans (rds5_19 ps))
     have s18 := hs 18 65 (by rfl) rfl
     have u9 : a.eval (.tmp 9) = .int .i64 e1 := (hel 9 (by decide)).trans e9
     (try simp only [rds5T, cond_true, cond_false, Bool.not_true, Bool.not_false, Bool.and_true, Bool.true_and, Bool.and_false, Bool.false_and] at s18)
     first | (exact zaj (rds5_19 ps) (by rw [zab rfl (zc2 ps) rfl s18]; rfl) (hK w hSw)) | (exact zae (rds5_19 ps) (by rw [zab rfl (zc2 ps) rfl s18]; rfl) (by unfold rds5O19 execOp; simp only [u9, rds5T, cond_true, cond_false, Bool.not_true, Bool.not_false, Bool.and_true, Bool.true_and, Bool.and_false, Bool.false_and]; first | (go_simp; done) | (go_simp; with_reducible rfl)) (hK w hSw))
   | 20, _, ho =>
    as_aux_lemma =>
     obtain rfl := Option.some.inj (ho.symm.trans (rds5_20 ps))
     have s18 := hs 18 65 (by rfl) rfl
     have u14 : a.eval (.tmp 14) = .int .i64 e1 := (hel 14 (by decide)).trans e14
     (try simp only [rds5T, cond_true, cond_false, Bool.not_true, Bool.not_false, Bool.and_true, Bool.true_and, Bool.and_false, Bool.false_and] at s18)
     first | (exact zaj (rds5_20 ps) (by rw [zab rfl (zc2 ps) rfl s18]; rfl) (hK w hSw)) | (exact zae (rds5_20 ps) (by rw [zab rfl (zc2 ps) rfl s18]; rfl) (by unfold rds5O20 execOp; simp only [u14, rds5T, cond_true, cond_false, Bool.not_true, Bool.not_false, Bool.and_true, Bool.true_and, Bool.and_false, Bool.false_and]; first | (go_simp; done) | (go_simp; with_reducible rfl)) (hK w hSw))
   | 21, _, ho =>
    as_aux_lemma =>
     obtain rfl := Option.some.inj (ho.symm.trans (rds5_21 ps))
     have s19 := hs 19 66 (by rfl) rfl
     have s20 := hs 20 67 (by rfl) rfl
     have s18 := hs 18 65 (by rfl) rfl
     (try simp only [rds5T, cond_true, cond_false, Bool.not_true, Bool.not_false, Bool.and_true, Bool.true_and, Bool.and_false, Bool.false_and] at s19 s20 s18)
     first | (exact zaj (rds5_21 ps) (by rw [zab rfl (zc2 ps) rfl s18]; rfl) (hK w hSw)) | (exact zae (rds5_21 ps) (by rw [zab rfl (zc2 ps) rfl s18]; rfl) (by unfold rds5O21 execOp; simp only [s19, s20, rds5T, cond_true, cond_false, Bool.not_true, Bool.not_false, Bool.and_true, Bool.true_and, Bool.and_false, Bool.false_and]; first | (go_simp; done) | (go_simp; with_reducible rfl)) (hK w hSw))
   | 22, _, ho =>
    as_aux_lemma =>
     obtain rfl := Option.some.inj (ho.symm.trans (rds5_22 ps))
     have s18 := hs 18 65 (by rfl) rfl
     have s21 := hs 21 68 (by rfl) rfl
     (try simp only [rds5T, cond_true, cond_false, Bool.not_true, Bool.not_false, Bool.and_true, Bool.true_and, Bool.and_false, Bool.false_and] at s18 s21)
     exact zae (rds5_22 ps) rfl (by unfold rds5O22 execOp; simp only [s18, s21, rds5T, cond_true, cond_false, Bool.not_true, Bool.not_false, Bool.and_true, Bool.true_and, Bool.and_false, Bool.false_and]; first | (go_simp; done) | (go_simp; with_reducible rfl)) (hK w hSw)
   | 23, _, ho =>
    as_aux_lemma =>
     obtain rfl := Option.some.inj (ho.symm.trans (zc1 ps))
     have s22 := hs 22 69 (by rfl) rfl
     (try simp only [rds5T, cond_true, cond_false, Bool.not_true, Bool.not_false, Bool.and_true, Bool.true_and, Bool.and_false, Bool.false_and] at s22)
     exact zae (zc1 ps) rfl (by unfold rds5O23 execOp; simp only [s22, rds5T, cond_true, cond_false, Bool.not_true, Bool.not_false, Bool.and_true, Bool.true_and, Bool.and_false, Bool.false_and]; first | (go_simp; done) | (go_simp; with_reducible rfl)) (hK w hSw)
   | 24, _, ho =>
    as_aux_lemma =>
     obtain rfl := Option.some.inj (ho.symm.trans (rds5_24 ps))
     have s23 := hs 23 70 (by rfl) rfl
     have u15 : a.eval (.tmp 15) = .pointer (some ⟨p3, 0, none⟩) := (hel 15 (by decide)).trans e15
     have hcl := Box.c15 hSw.2.2.2.2.2.1
     (try simp only [rds5T, cond_true, cond_false, Bool.not_true, Bool.not_false, Bool.and_true, Bool.true_and, Bool.and_false, Bool.false_and] at s23)
     first | (exact zaj (rds5_24 ps) (by rw [zab rfl (zc1 ps) rfl s23]; rfl) (hK w hSw)) | (exact zae (rds5_24 ps) (by rw [zab rfl (zc1 ps) rfl s23]; rfl) (by unfold rds5O24 execOp; simp only [u15, rds5T, cond_true, cond_false, Bool.not_true, Bool.not_false, Bool.and_true, Bool.true_and, Bool.and_false, Bool.false_and]; first | (go_simp; done) | (go_simp; with_reducible rfl)) (hK w hSw))
   | 25, _, ho =>
    as_aux_lemma =>
     obtain rfl := Option.some.inj (ho.symm.trans (rds5_25 ps))
     have s23 := hs 23 70 (by rfl) rfl
     have u17 : a.eval (.tmp 17) = .pointer (some ⟨p4, 0, none⟩) := (hel 17 (by decide)).trans e17
     have hcl := Box.c15 hSw.2.2.2.2.2.2.1
     (try simp only [rds5T, cond_true, cond_false, Bool.not_true, Bool.not_false, Bool.and_true, Bool.true_and, Bool.and_false, Bool.false_and] at s23)
     first | (exact zaj (rds5_25 ps) (by rw [zab rfl (zc1 ps) rfl s23]; rfl) (hK w hSw)) | (exact zae (rds5_25 ps) (by rw [zab rfl (zc1 ps) rfl s23]; rfl) (by unfold rds5O25 execOp; simp only [u17, rds5T, cond_true, cond_false, Bool.not_true, Bool.not_false, Bool.and_true, Bool.true_and, Bool.and_false, Bool.false_and]; first | (go_simp; done) | (go_simp; with_reducible rfl)) (hK w hSw))
   | 26, _, ho =>
    as_aux_lemma =>
     obtain rfl := Option.some.inj (ho.symm.trans (rds5_26 ps))
     have s24 := hs 24 71 (by rfl) rfl
     have s25 := hs 25 72 (by rfl) rfl
     have s23 := hs 23 70 (by rfl) rfl
     (try simp only [rds5T, cond_true, cond_false, Bool.not_true, Bool.not_false, Bool.and_true, Bool.true_and, Bool.and_false, Bool.false_and] at s24 s25 s23)
     first | (exact zaj (rds5_26 ps) (by rw [zab rfl (zc1 ps) rfl s23]; rfl) (hK w hSw)) | (exact zbh (rds5_26 ps) (by rw [zab rfl (zc1 ps) rfl s23]; rfl) (f := 16) (args := #[.agg #[.int .i64 R2.s.n, .slice kc.ua R2.s.u.length kc.uc, .slice kc.la kc.es.length kc.lc, .int .i64 R2.cap, .int .i64 R2.shift, .int .i64 R2.edge, .int .u32 R2.recent, .bool R2.stamps, .bool R2.sacks, .int .i64 R2.fin, .bool R2.dn, .slice kc.fa R2.first.length kc.fc, .int .u32 R2.irs, .int .u32 R2.own, .bool R2.stamp], .agg #[.int .i64 R2.s.n, .slice kd.ua R2.s.u.length kd.uc, .slice kd.la kd.es.length kd.lc, .int .i64 R2.cap, .int .i64 R2.shift, .int .i64 R2.edge, .int .u32 R2.recent, .bool R2.stamps, .bool R2.sacks, .int .i64 R2.fin, .bool R2.dn, .slice kd.fa R2.first.length kd.fc, .int .u32 R2.irs, .int .u32 R2.own, .bool R2.stamp]]) (by rw [zbp rfl zfl]; simp only [List.map_toArray, List.map_cons, List.map_nil, s24, s25]; try rfl) ((c4 w hSw.2.2.2.2.2.2.2.2.2).mono (fun e w' hh => ⟨_, hh.1, hK w' ⟨hSw.1.later hh.2, hSw.2.1.later hh.2, hSw.2.2.1.later hh.2, hSw.2.2.2.1.later hh.2, hSw.2.2.2.2.1.later hh.2, hSw.2.2.2.2.2.1.later hh.2, hSw.2.2.2.2.2.2.1.later hh.2, hSw.2.2.2.2.2.2.2.1.later hh.2, hSw.2.2.2.2.2.2.2.2.1.later hh.2, Below.on hSw.2.2.2.2.2.2.2.2.2 hh.2⟩⟩)))
   | 27, _, ho =>
    as_aux_lemma =>
     obtain rfl := Option.some.inj (ho.symm.trans (rds5_27 ps))
     have s23 := hs 23 70 (by rfl) rfl
     have s26 := hs 26 73 (by rfl) rfl
     (try simp only [rds5T, cond_true, cond_false, Bool.not_true, Bool.not_false, Bool.and_true, Bool.true_and, Bool.and_false, Bool.false_and] at s23 s26)
     exact zae (rds5_27 ps) rfl (by unfold rds5O27 execOp; simp only [s23, s26, rds5T, cond_true, cond_false, Bool.not_true, Bool.not_false, Bool.and_true, Bool.true_and, Bool.and_false, Bool.false_and]; first | (go_simp; done) | (go_simp; with_reducible rfl)) (hK w hSw)
   | 28, _, ho =>
    as_aux_lemma =>
     obtain rfl := Option.some.inj (ho.symm.trans (zc0 ps))
     have s27 := hs 27 74 (by rfl) rfl
     (try simp only [rds5T, cond_true, cond_false, Bool.not_true, Bool.not_false, Bool.and_true, Bool.true_and, Bool.and_false, Bool.false_and] at s27)
     exact zae (zc0 ps) rfl (by unfold rds5O28 execOp; simp only [s27, rds5T, cond_true, cond_false, Bool.not_true, Bool.not_false, Bool.and_true, Bool.true_and, Bool.and_false, Bool.false_and]; first | (go_simp; done) | (go_simp; with_reducible rfl)) (hK w hSw)
   | 29, _, ho =>
    as_aux_lemma =>
     obtain rfl := Option.some.inj (ho.symm.trans (rds5_29 ps))
     have s28 := hs 28 75 (by rfl) rfl
     have u16 : a.eval (.tmp 16) = .pointer (some ⟨q3, 0, none⟩) := (hel 16 (by decide)).trans e16
     have hcl := Box.c15 hSw.2.2.2.2.2.2.2.1
     (try simp only [rds5T, cond_true, cond_false, Bool.not_true, Bool.not_false, Bool.and_true, Bool.true_and, Bool.and_false, Bool.false_and] at s28)
     first | (exact zaj (rds5_29 ps) (by rw [zab rfl (zc0 ps) rfl s28]; rfl) (hK w hSw)) | (exact zae (rds5_29 ps) (by rw [zab rfl (zc0 ps) rfl s28]; rfl) (by unfold rds5O29 execOp; simp only [u16, rds5T, cond_true, cond_false, Bool.not_true, Bool.not_false, Bool.and_true, Bool.true_and, Bool.and_false, Bool.false_and]; first | (go_simp; done) | (go_simp; with_reducible rfl)) (hK w hSw))
   | 30, _, ho =>
    as_aux_lemma =>
     obtain rfl := Option.some.inj (ho.symm.trans (rds5_30 ps))
     have s28 := hs 28 75 (by rfl) rfl
     have u18 : a.eval (.tmp 18) = .pointer (some ⟨q4, 0, none⟩) := (hel 18 (by decide)).trans e18
     have hcl := Box.c15 hSw.2.2.2.2.2.2.2.2.1
     (try simp only [rds5T, cond_true, cond_false, Bool.not_true, Bool.not_false, Bool.and_true, Bool.true_and, Bool.and_false, Bool.false_and] at s28)
     first | (exact zaj (rds5_30 ps) (by rw [zab rfl (zc0 ps) rfl s28]; rfl) (hK w hSw)) | (exact zae (rds5_30 ps) (by rw [zab rfl (zc0 ps) rfl s28]; rfl) (by unfold rds5O30 execOp; simp only [u18, rds5T, cond_true, cond_false, Bool.not_true, Bool.not_false, Bool.and_true, Bool.true_and, Bool.and_false, Bool.false_and]; first | (go_simp; done) | (go_simp; with_reducible rfl)) (hK w hSw))
   | 31, _, ho =>
    as_aux_lemma =>
     obtain rfl := Option.some.inj (ho.symm.trans (rds5_31 ps))
     have s29 := hs 29 76 (by rfl) rfl
     have s30 := hs 30 77 (by rfl) rfl
     have s28 := hs 28 75 (by rfl) rfl
     (try simp only [rds5T, cond_true, cond_false, Bool.not_true, Bool.not_false, Bool.and_true, Bool.true_and, Bool.and_false, Bool.false_and] at s29 s30 s28)
     first | (exact zaj (rds5_31 ps) (by rw [zab rfl (zc0 ps) rfl s28]; rfl) (hK w hSw)) | (exact zbh (rds5_31 ps) (by rw [zab rfl (zc0 ps) rfl s28]; rfl) (f := 17) (args := #[.agg #[.int .i64 T2.sp, .int .i64 T2.dp, .int .u32 T2.sq, .int .u32 T2.ak, .int .i64 T2.fl, .int .i64 T2.wn, .int .i64 T2.ur, .int .i64 T2.ms, .int .i64 T2.sc, .bool T2.so, .bool T2.st, .int .u32 T2.va, .int .u32 T2.ec, .slice sc.ka T2.sk.length sc.kc, .slice sc.da T2.da.length sc.dc], .agg #[.int .i64 T2.sp, .int .i64 T2.dp, .int .u32 T2.sq, .int .u32 T2.ak, .int .i64 T2.fl, .int .i64 T2.wn, .int .i64 T2.ur, .int .i64 T2.ms, .int .i64 T2.sc, .bool T2.so, .bool T2.st, .int .u32 T2.va, .int .u32 T2.ec, .slice sd.ka T2.sk.length sd.kc, .slice sd.da T2.da.length sd.dc]]) (by rw [zbp rfl zfk]; simp only [List.map_toArray, List.map_cons, List.map_nil, s29, s30]; try rfl) ((c5 w hSw.2.2.2.2.2.2.2.2.2).mono (fun e w' hh => ⟨_, hh.1, hK w' ⟨hSw.1.later hh.2, hSw.2.1.later hh.2, hSw.2.2.1.later hh.2, hSw.2.2.2.1.later hh.2, hSw.2.2.2.2.1.later hh.2, hSw.2.2.2.2.2.1.later hh.2, hSw.2.2.2.2.2.2.1.later hh.2, hSw.2.2.2.2.2.2.2.1.later hh.2, hSw.2.2.2.2.2.2.2.2.1.later hh.2, Below.on hSw.2.2.2.2.2.2.2.2.2 hh.2⟩⟩)))
   | 32, _, ho =>
    as_aux_lemma =>
     obtain rfl := Option.some.inj (ho.symm.trans (rds5_32 ps))
     have s28 := hs 28 75 (by rfl) rfl
     have s31 := hs 31 78 (by rfl) rfl
     (try simp only [rds5T, cond_true, cond_false, Bool.not_true, Bool.not_false, Bool.and_true, Bool.true_and, Bool.and_false, Bool.false_and] at s28 s31)
     exact zae (rds5_32 ps) rfl (by unfold rds5O32 execOp; simp only [s28, s31, rds5T, cond_true, cond_false, Bool.not_true, Bool.not_false, Bool.and_true, Bool.true_and, Bool.and_false, Bool.false_and]; first | (go_simp; done) | (go_simp; with_reducible rfl)) (hK w hSw)
   | 33, _, ho =>
    as_aux_lemma =>
     obtain rfl := Option.some.inj (ho.symm.trans (zb2 ps))
     have s32 := hs 32 79 (by rfl) rfl
     (try simp only [rds5T, cond_true, cond_false, Bool.not_true, Bool.not_false, Bool.and_true, Bool.true_and, Bool.and_false, Bool.false_and] at s32)
     exact zae (zb2 ps) rfl (by unfold rds5O33 execOp; simp only [s32, rds5T, cond_true, cond_false, Bool.not_true, Bool.not_false, Bool.and_true, Bool.true_and, Bool.and_false, Bool.false_and]; first | (go_simp; done) | (go_simp; with_reducible rfl)) (hK w hSw)
   | 34, _, ho =>
    as_aux_lemma =>
     obtain rfl := Option.some.inj (ho.symm.trans (rds5_34 ps))
     have s33 := hs 33 80 (by rfl) rfl
     have u2 : a.eval (.tmp 2) = .pointer (some ⟨g, 0, none⟩) := (hel 2 (by decide)).trans e2
     have hcl := Box.c15 hSw.1
     (try simp only [rds5T, cond_true, cond_false, Bool.not_true, Bool.not_false, Bool.and_true, Bool.true_and, Bool.and_false, Bool.false_and] at s33)
     first | (exact zaj (rds5_34 ps) (by rw [zab rfl (zb2 ps) rfl s33]; rfl) (hK w hSw)) | (exact zae (rds5_34 ps) (by rw [zab rfl (zb2 ps) rfl s33]; rfl) (by unfold rds5O34 execOp; simp only [u2, rds5T, cond_true, cond_false, Bool.not_true, Bool.not_false, Bool.and_true, Bool.true_and, Bool.and_false, Bool.false_and]; first | (go_simp; done) | (go_simp; with_reducible rfl)) (hK w hSw))
   | 35, _, ho =>
    as_aux_lemma =>
     obtain rfl := Option.some.inj (ho.symm.trans (rds5_35 ps))
     have s34 := hs 34 81 (by rfl) rfl
     have s33 := hs 33 80 (by rfl) rfl
     (try simp only [rds5T, cond_true, cond_false, Bool.not_true, Bool.not_false, Bool.and_true, Bool.true_and, Bool.and_false, Bool.false_and] at s34 s33)
     first | (exact zaj (rds5_35 ps) (by rw [zab rfl (zb2 ps) rfl s33]; rfl) (hK w hSw)) | (exact zbh (rds5_35 ps) (by rw [zab rfl (zb2 ps) rfl s33]; rfl) (f := 10) (args := #[.agg #[.int .i64 r.s.n, .slice h.ua r.s.u.length h.uc, .slice h.la h.es.length h.lc, .int .i64 r.cap, .int .i64 r.shift, .int .i64 r.edge, .int .u32 r.recent, .bool r.stamps, .bool r.sacks, .int .i64 r.fin, .bool r.dn, .slice h.fa r.first.length h.fc, .int .u32 r.irs, .int .u32 r.own, .bool r.stamp]]) (by rw [zbp rfl enter_winP]; simp only [List.map_toArray, List.map_cons, List.map_nil, s34]; try rfl) ((c6 w hSw.2.2.2.2.2.2.2.2.2).mono (fun e w' hh => ⟨_, hh.1, hK w' ⟨hSw.1.later hh.2, hSw.2.1.later hh.2, hSw.2.2.1.later hh.2, hSw.2.2.2.1.later hh.2, hSw.2.2.2.2.1.later hh.2, hSw.2.2.2.2.2.1.later hh.2, hSw.2.2.2.2.2.2.1.later hh.2, hSw.2.2.2.2.2.2.2.1.later hh.2, hSw.2.2.2.2.2.2.2.2.1.later hh.2, Below.on hSw.2.2.2.2.2.2.2.2.2 hh.2⟩⟩)))
   | 36, _, ho =>
    as_aux_lemma =>
     obtain rfl := Option.some.inj (ho.symm.trans (rds5_36 ps))
     have s33 := hs 33 80 (by rfl) rfl
     have u2 : a.eval (.tmp 2) = .pointer (some ⟨g, 0, none⟩) := (hel 2 (by decide)).trans e2
     have hcl := Box.c15 hSw.1
     (try simp only [rds5T, cond_true, cond_false, Bool.not_true, Bool.not_false, Bool.and_true, Bool.true_and, Bool.and_false, Bool.false_and] at s33)
     first | (exact zaj (rds5_36 ps) (by rw [zab rfl (zb2 ps) rfl s33]; rfl) (hK w hSw)) | (exact zae (rds5_36 ps) (by rw [zab rfl (zb2 ps) rfl s33]; rfl) (by unfold rds5O36 execOp; simp only [u2, rds5T, cond_true, cond_false, Bool.not_true, Bool.not_false, Bool.and_true, Bool.true_and, Bool.and_false, Bool.false_and]; first | (go_simp; done) | (go_simp; with_reducible rfl)) (hK w hSw))
   | 37, _, ho =>
    as_aux_lemma =>
     obtain rfl := Option.some.inj (ho.symm.trans (rds5_37 ps))
     have s36 := hs 36 83 (by rfl) rfl
     have s33 := hs 33 80 (by rfl) rfl
     (try simp only [rds5T, cond_true, cond_false, Bool.not_true, Bool.not_false, Bool.and_true, Bool.true_and, Bool.and_false, Bool.false_and] at s36 s33)
     first | (exact zaj (rds5_37 ps) (by rw [zab rfl (zb2 ps) rfl s33]; rfl) (hK w hSw)) | (exact zbh (rds5_37 ps) (by rw [zab rfl (zb2 ps) rfl s33]; rfl) (f := 22) (args := #[.agg #[.int .i64 r.s.n, .slice h.ua r.s.u.length h.uc, .slice h.la h.es.length h.lc, .int .i64 r.cap, .int .i64 r.shift, .int .i64 r.edge, .int .u32 r.recent, .bool r.stamps, .bool r.sacks, .int .i64 r.fin, .bool r.dn, .slice h.fa r.first.length h.fc, .int .u32 r.irs, .int .u32 r.own, .bool r.stamp]]) (by rw [zbp rfl enter_winR]; simp only [List.map_toArray, List.map_cons, List.map_nil, s36]; try rfl) ((c7 w hSw.2.2.2.2.2.2.2.2.2).mono (fun e w' hh => ⟨_, hh.1, hK w' ⟨hSw.1.later hh.2, hSw.2.1.later hh.2, hSw.2.2.1.later hh.2, hSw.2.2.2.1.later hh.2, hSw.2.2.2.2.1.later hh.2, hSw.2.2.2.2.2.1.later hh.2, hSw.2.2.2.2.2.2.1.later hh.2, hSw.2.2.2.2.2.2.2.1.later hh.2, hSw.2.2.2.2.2.2.2.2.1.later hh.2, Below.on hSw.2.2.2.2.2.2.2.2.2 hh.2⟩⟩)))
   | 38, _, ho =>
    as_aux_lemma =>
     obtain rfl := Option.some.inj (ho.symm.trans (rds5_38 ps))
     have s35 := hs 35 82 (by rfl) rfl
     have s37 := hs 37 84 (by rfl) rfl
     have s33 := hs 33 80 (by rfl) rfl
     (try simp only [rds5T, cond_true, cond_false, Bool.not_true, Bool.not_false, Bool.and_true, Bool.true_and, Bool.and_false, Bool.false_and] at s35 s37 s33)
     first | (exact zaj (rds5_38 ps) (by rw [zab rfl (zb2 ps) rfl s33]; rfl) (hK w hSw)) | (exact zae (rds5_38 ps) (by rw [zab rfl (zb2 ps) rfl s33]; rfl) (by unfold rds5O38 execOp; simp only [s35, s37, rds5T, cond_true, cond_false, Bool.not_true, Bool.not_false, Bool.and_true, Bool.true_and, Bool.and_false, Bool.false_and]; first | (go_simp; done) | (go_simp; with_reducible rfl)) (hK w hSw))
   | 39, _, ho =>
    as_aux_lemma =>
     obtain rfl := Option.some.inj (ho.symm.trans (rds5_39 ps))
     have s33 := hs 33 80 (by rfl) rfl
     have s38 := hs 38 85 (by rfl) rfl
     (try simp only [rds5T, cond_true, cond_false, Bool.not_true, Bool.not_false, Bool.and_true, Bool.true_and, Bool.and_false, Bool.false_and] at s33 s38)
     exact zae (rds5_39 ps) rfl (by unfold rds5O39 execOp; simp only [s33, s38, rds5T, cond_true, cond_false, Bool.not_true, Bool.not_false, Bool.and_true, Bool.true_and, Bool.and_false, Bool.false_and]; first | (go_simp; done) | (go_simp; with_reducible rfl)) (hK w hSw)
   | 40, _, ho =>
    as_aux_lemma =>
     obtain rfl := Option.some.inj (ho.symm.trans (zgm ps))
     have s39 := hs 39 86 (by rfl) rfl
     (try simp only [rds5T, cond_true, cond_false, Bool.not_true, Bool.not_false, Bool.and_true, Bool.true_and, Bool.and_false, Bool.false_and] at s39)
     exact zae (zgm ps) rfl (by unfold rds5O40 execOp; simp only [s39, rds5T, cond_true, cond_false, Bool.not_true, Bool.not_false, Bool.and_true, Bool.true_and, Bool.and_false, Bool.false_and]; first | (go_simp; done) | (go_simp; with_reducible rfl)) (hK w hSw)
   | 41, _, ho =>
    as_aux_lemma =>
     obtain rfl := Option.some.inj (ho.symm.trans (rds5_41 ps))
     have s40 := hs 40 87 (by rfl) rfl
     (try simp only [rds5T, cond_true, cond_false, Bool.not_true, Bool.not_false, Bool.and_true, Bool.true_and, Bool.and_false, Bool.false_and] at s40)
     first | (exact zaj (rds5_41 ps) (by rw [zab rfl (zgm ps) rfl s40]; rfl) (hK w hSw)) | (exact zbh (rds5_41 ps) (by rw [zab rfl (zgm ps) rfl s40]; rfl) (f := 11) (args := #[]) (by rw [zbp rfl enter_headsR]; simp only [List.map_toArray, List.map_cons, List.map_nil]; try rfl) ((c8 w hSw.2.2.2.2.2.2.2.2.2).mono (fun e w' hh => ⟨_, hh.1, hK w' ⟨hSw.1.later hh.2, hSw.2.1.later hh.2, hSw.2.2.1.later hh.2, hSw.2.2.2.1.later hh.2, hSw.2.2.2.2.1.later hh.2, hSw.2.2.2.2.2.1.later hh.2, hSw.2.2.2.2.2.2.1.later hh.2, hSw.2.2.2.2.2.2.2.1.later hh.2, hSw.2.2.2.2.2.2.2.2.1.later hh.2, Below.on hSw.2.2.2.2.2.2.2.2.2 hh.2⟩⟩)))
   | 42, _, ho =>
    as_aux_lemma =>
     obtain rfl := Option.some.inj (ho.symm.trans (rds5_42 ps))
     have s40 := hs 40 87 (by rfl) rfl
     have s41 := hs 41 88 (by rfl) rfl
     (try simp only [rds5T, cond_true, cond_false, Bool.not_true, Bool.not_false, Bool.and_true, Bool.true_and, Bool.and_false, Bool.false_and] at s40 s41)
     exact zae (rds5_42 ps) rfl (by unfold rds5O42 execOp; simp only [s40, s41, rds5T, cond_true, cond_false, Bool.not_true, Bool.not_false, Bool.and_true, Bool.true_and, Bool.and_false, Bool.false_and]; first | (go_simp; done) | (go_simp; with_reducible rfl)) (hK w hSw)
   | 43, _, ho =>
    as_aux_lemma =>
     obtain rfl := Option.some.inj (ho.symm.trans (rds5_43 ps))
     have s42 := hs 42 89 (by rfl) rfl
     (try simp only [rds5T, cond_true, cond_false, Bool.not_true, Bool.not_false, Bool.and_true, Bool.true_and, Bool.and_false, Bool.false_and] at s42)
     exact zae (rds5_43 ps) rfl (by unfold rds5O43 execOp; simp only [s42, rds5T, cond_true, cond_false, Bool.not_true, Bool.not_false, Bool.and_true, Bool.true_and, Bool.and_false, Bool.false_and]; first | (go_simp; done) | (go_simp; with_reducible rfl)) (hK w hSw)
   | iq + 44, hin, _ => exact absurd hin (by omega)
end Go.Proofs.Ytkigcdmlkmcdcaa

