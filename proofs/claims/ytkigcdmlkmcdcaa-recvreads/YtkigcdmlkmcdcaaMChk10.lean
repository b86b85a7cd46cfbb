/- The document's Check: region 10. -/
import Derived.Test.YtkigcdmlkmcdcaaZ
import Derived.Test.YtkigcdmlkmcdcaaMChk3
namespace Go.Proofs.Ytkigcdmlkmcdcaa
open Go.ChangeShapes Go.WideShapes Go.ChangeAt Go.RowKit
set_option linter.unusedVariables false
set_option linter.unusedSimpArgs false

theorem enter_limit (args : Array Value) (w : World) : (callFunc 41 args).run Try.prog w = .ok (.enter 41 args) w := by kernel_rfl
def chk10O0 (ps : String) : Oper := { dst := some 100, op := .move (.tmp 5), type := 3, pos := ps, after := #[], guard := none }
def chk10O1 (ps : String) : Oper := { dst := some 101, op := .binOp .lss 3 (.tmp 100) (.const (.int .i64 1)) 3, type := 4, pos := ps, after := #[{ on := 0, ground := .data }], guard := none }
def chk10O2 (ps : String) : Oper := { dst := some 102, op := .move (.tmp 101), type := 4, pos := ps, after := #[{ on := 1, ground := .data }], guard := none }
def chk10O3 (ps : String) : Oper := { dst := some 103, op := .fieldAddr 27 (.tmp 1) 2, type := 0, pos := ps, after := #[{ on := 2, ground := .guard }], guard := some (2, false) }
def chk10O4 (ps : String) : Oper := { dst := some 104, op := .load 23 (.tmp 103), type := 23, pos := ps, after := #[{ on := 3, ground := .data }, { on := 2, ground := .guard }], guard := some (2, false) }
def chk10O5 (ps : String) : Oper := { dst := some 105, op := .move (.tmp 4), type := 3, pos := ps, after := #[{ on := 2, ground := .guard }], guard := some (2, false) }
def chk10O6 (ps : String) : Oper := { dst := some 106, op := .indexAddr 23 (.tmp 104) (.tmp 105), type := 0, pos := ps, after := #[{ on := 4, ground := .data }, { on := 5, ground := .data }, { on := 2, ground := .guard }], guard := some (2, false) }
def chk10O7 (ps : String) : Oper := { dst := some 107, op := .fieldAddr 74 (.tmp 106) 0, type := 0, pos := ps, after := #[{ on := 6, ground := .data }, { on := 2, ground := .guard }], guard := some (2, false) }
def chk10O8 (ps : String) : Oper := { dst := some 108, op := .load 3 (.tmp 107), type := 3, pos := ps, after := #[{ on := 7, ground := .data }, { on := 2, ground := .guard }], guard := some (2, false) }
def chk10O9 (ps : String) : Oper := { dst := some 109, op := .move (.tmp 3), type := 3, pos := ps, after := #[{ on := 2, ground := .guard }], guard := some (2, false) }
def zi7 (ps : String) : Oper := { dst := some 110, op := .binOp .leq 3 (.tmp 108) (.tmp 109) 3, type := 4, pos := ps, after := #[{ on := 8, ground := .data }, { on := 9, ground := .data }, { on := 2, ground := .guard }], guard := some (2, false) }
def zi6 (ps : String) : Oper := { dst := some 111, op := .pick (.tmp 102) (.const (.bool true)) (.tmp 110), type := 4, pos := ps, after := #[{ on := 2, ground := .data }, { on := 10, ground := .data }], guard := none }
def zi5 (ps : String) : Oper := { dst := some 112, op := .move (.tmp 111), type := 4, pos := ps, after := #[{ on := 11, ground := .data }, { on := 2, ground := .chain }], guard := none }
def zi4 (ps : String) : Oper := { dst := some 113, op := .fieldAddr 27 (.tmp 1) 2, type := 0, pos := ps, after := #[{ on := 12, ground := .guard }], guard := some (12, false) }
def zi3 (ps : String) : Oper := { dst := some 114, op := .load 23 (.tmp 113), type := 23, pos := ps, after := #[{ on := 13, ground := .data }, { on := 12, ground := .guard }], guard := some (12, false) }
def zi2 (ps : String) : Oper := { dst := some 115, op := .move (.tmp 4), type := 3, pos := ps, after := #[{ on := 12, ground := .guard }], guard := some (12, false) }
def zi1 (ps : String) : Oper := { dst := some 116, op := .indexAddr 23 (.tmp 114) (.tmp 115), type := 0, pos := ps, after := #[{ on := 14, ground := .data }, { on := 15, ground := .data }, { on := 12, ground := .guard }], guard := some (12, false) }
def zi0 (ps : String) : Oper := { dst := some 117, op := .fieldAddr 74 (.tmp 116) 0, type := 0, pos := ps, after := #[{ on := 16, ground := .data }, { on := 12, ground := .guard }], guard := some (12, false) }
def ziz (ps : String) : Oper := { dst := some 118, op := .load 3 (.tmp 117), type := 3, pos := ps, after := #[{ on := 17, ground := .data }, { on := 12, ground := .guard }], guard := some (12, false) }
def ziy (ps : String) : Oper := { dst := some 119, op := .load 27 (.tmp 1), type := 27, pos := ps, after := #[{ on := 12, ground := .guard }], guard := some (12, false) }
def chk10O20 (ps : String) : Oper := { dst := some 120, op := .call { callee := .value (.func 41), args := #[.tmp 119], argTypes := #[27] }, type := 3, pos := ps, after := #[{ on := 19, ground := .data }, { on := 12, ground := .chain }, { on := 12, ground := .guard }], guard := some (12, false) }
def zix (ps : String) : Oper := { dst := some 121, op := .move (.tmp 5), type := 3, pos := ps, after := #[{ on := 12, ground := .guard }], guard := some (12, false) }
def ziw (ps : String) : Oper := { dst := some 122, op := .binOp .sub 3 (.tmp 120) (.tmp 121) 3, type := 3, pos := ps, after := #[{ on := 20, ground := .data }, { on := 21, ground := .data }, { on := 12, ground := .guard }], guard := some (12, false) }
def ziv (ps : String) : Oper := { dst := some 123, op := .binOp .gtr 3 (.tmp 118) (.tmp 122) 3, type := 4, pos := ps, after := #[{ on := 18, ground := .data }, { on := 22, ground := .data }, { on := 12, ground := .guard }], guard := some (12, false) }
def ziu (ps : String) : Oper := { dst := some 124, op := .pick (.tmp 112) (.const (.bool true)) (.tmp 123), type := 4, pos := ps, after := #[{ on := 12, ground := .data }, { on := 23, ground := .data }], guard := none }
def zit (ps : String) : Oper := { dst := some 125, op := .move (.tmp 124), type := 4, pos := ps, after := #[{ on := 24, ground := .data }, { on := 20, ground := .chain }], guard := none }
def zis (ps : String) : Oper := { dst := some 126, op := .fieldAddr 27 (.tmp 1) 9, type := 0, pos := ps, after := #[{ on := 25, ground := .guard }], guard := some (25, false) }
def zir (ps : String) : Oper := { dst := some 127, op := .load 3 (.tmp 126), type := 3, pos := ps, after := #[{ on := 26, ground := .data }, { on := 25, ground := .guard }], guard := some (25, false) }
def ziq (ps : String) : Oper := { dst := some 128, op := .binOp .geq 3 (.tmp 127) (.const (.int .i64 0)) 3, type := 4, pos := ps, after := #[{ on := 27, ground := .data }, { on := 25, ground := .guard }], guard := some (25, false) }
def zio (ps : String) : Oper := { dst := some 129, op := .move (.tmp 128), type := 4, pos := ps, after := #[{ on := 28, ground := .data }, { on := 25, ground := .chain }, { on := 25, ground := .guard }], guard := some (25, false) }
def zin (ps : String) : Oper := { dst := some 130, op := .fieldAddr 27 (.tmp 1) 2, type := 0, pos := ps, after := #[{ on := 29, ground := .guard }], guard := some (29, true) }
def zim (ps : String) : Oper := { dst := some 131, op := .load 23 (.tmp 130), type := 23, pos := ps, after := #[{ on := 30, ground := .data }, { on := 29, ground := .guard }], guard := some (29, true) }
def zil (ps : String) : Oper := { dst := some 132, op := .move (.tmp 4), type := 3, pos := ps, after := #[{ on := 29, ground := .guard }], guard := some (29, true) }
def zik (ps : String) : Oper := { dst := some 133, op := .indexAddr 23 (.tmp 131) (.tmp 132), type := 0, pos := ps, after := #[{ on := 31, ground := .data }, { on := 32, ground := .data }, { on := 29, ground := .guard }], guard := some (29, true) }
def zij (ps : String) : Oper := { dst := some 134, op := .fieldAddr 74 (.tmp 133) 0, type := 0, pos := ps, after := #[{ on := 33, ground := .data }, { on := 29, ground := .guard }], guard := some (29, true) }
def zii (ps : String) : Oper := { dst := some 135, op := .load 3 (.tmp 134), type := 3, pos := ps, after := #[{ on := 34, ground := .data }, { on := 29, ground := .guard }], guard := some (29, true) }
def zih (ps : String) : Oper := { dst := some 136, op := .fieldAddr 27 (.tmp 1) 9, type := 0, pos := ps, after := #[{ on := 29, ground := .guard }], guard := some (29, true) }
def zig (ps : String) : Oper := { dst := some 137, op := .load 3 (.tmp 136), type := 3, pos := ps, after := #[{ on := 36, ground := .data }, { on := 29, ground := .guard }], guard := some (29, true) }
def zif (ps : String) : Oper := { dst := some 138, op := .move (.tmp 5), type := 3, pos := ps, after := #[{ on := 29, ground := .guard }], guard := some (29, true) }
def zie (ps : String) : Oper := { dst := some 139, op := .binOp .sub 3 (.tmp 137) (.tmp 138) 3, type := 3, pos := ps, after := #[{ on := 37, ground := .data }, { on := 38, ground := .data }, { on := 29, ground := .guard }], guard := some (29, true) }
def zid (ps : String) : Oper := { dst := some 140, op := .binOp .gtr 3 (.tmp 135) (.tmp 139) 3, type := 4, pos := ps, after := #[{ on := 35, ground := .data }, { on := 39, ground := .data }, { on := 29, ground := .guard }], guard := some (29, true) }
def zic (ps : String) : Oper := { dst := some 141, op := .pick (.tmp 129) (.tmp 140) (.const (.bool false)), type := 4, pos := ps, after := #[{ on := 29, ground := .data }, { on := 40, ground := .data }, { on := 25, ground := .guard }], guard := some (25, false) }
def zib (ps : String) : Oper := { dst := some 142, op := .pick (.tmp 125) (.const (.bool true)) (.tmp 141), type := 4, pos := ps, after := #[{ on := 25, ground := .data }, { on := 41, ground := .data }], guard := none }
def chk10 (ps : String) : Array Oper := #[chk10O0 ps, chk10O1 ps, chk10O2 ps, chk10O3 ps, chk10O4 ps, chk10O5 ps, chk10O6 ps, chk10O7 ps, chk10O8 ps, chk10O9 ps, zi7 ps, zi6 ps, zi5 ps, zi4 ps, zi3 ps, zi2 ps, zi1 ps, zi0 ps, ziz ps, ziy ps, chk10O20 ps, zix ps, ziw ps, ziv ps, ziu ps, zit ps, zis ps, zir ps, ziq ps, zio ps, zin ps, zim ps, zil ps, zik ps, zij ps, zii ps, zih ps, zig ps, zif ps, zie ps, zid ps, zic ps, zib ps]
theorem chk10_0 (ps : String) : (chk10 ps)[0]? = some (chk10O0 ps) := rfl
theorem chk10_1 (ps : String) : (chk10 ps)[1]? = some (chk10O1 ps) := rfl
theorem zbi (ps : String) : (chk10 ps)[2]? = some (chk10O2 ps) := rfl
theorem chk10_3 (ps : String) : (chk10 ps)[3]? = some (chk10O3 ps) := rfl
theorem chk10_4 (ps : String) : (chk10 ps)[4]? = some (chk10O4 ps) := rfl
theorem chk10_5 (ps : String) : (chk10 ps)[5]? = some (chk10O5 ps) := rfl
theorem chk10_6 (ps : String) : (chk10 ps)[6]? = some (chk10O6 ps) := rfl
theorem chk10_7 (ps : String) : (chk10 ps)[7]? = some (chk10O7 ps) := rfl
theorem chk10_8 (ps : String) : (chk10 ps)[8]? = some (chk10O8 ps) := rfl
theorem chk10_9 (ps : String) : (chk10 ps)[9]? = some (chk10O9 ps) := rfl
theorem zia (ps : String) : (chk10 ps)[10]? = some (zi7 ps) := rfl
theorem chk10_11 (ps : String) : (chk10 ps)[11]? = some (zi6 ps) := rfl
theorem za0 (ps : String) : (chk10 ps)[12]? = some (zi5 ps) := rfl
theorem zh9 (ps : String) : (chk10 ps)[13]? = some (zi4 ps) := rfl
theorem zh8 (ps : String) : (chk10 ps)[14]? = some (zi3 ps) := rfl
theorem zh7 (ps : String) : (chk10 ps)[15]? = some (zi2 ps) := rfl
theorem zh6 (ps : String) : (chk10 ps)[16]? = some (zi1 ps) := rfl
theorem zh5 (ps : String) : (chk10 ps)[17]? = some (zi0 ps) := rfl
theorem zh4 (ps : String) : (chk10 ps)[18]? = some (ziz ps) := rfl
theorem zh3 (ps : String) : (chk10 ps)[19]? = some (ziy ps) := rfl
theorem zh2 (ps : String) : (chk10 ps)[20]? = some (chk10O20 ps) := rfl
theorem zh1 (ps : String) : (chk10 ps)[21]? = some (zix ps) := rfl
theorem zh0 (ps : String) : (chk10 ps)[22]? = some (ziw ps) := rfl
theorem zhz (ps : String) : (chk10 ps)[23]? = some (ziv ps) := rfl
theorem chk10_24 (ps : String) : (chk10 ps)[24]? = some (ziu ps) := rfl
theorem zbr (ps : String) : (chk10 ps)[25]? = some (zit ps) := rfl
theorem zhy (ps : String) : (chk10 ps)[26]? = some (zis ps) := rfl
theorem zhx (ps : String) : (chk10 ps)[27]? = some (zir ps) := rfl
theorem zhw (ps : String) : (chk10 ps)[28]? = some (ziq ps) := rfl
theorem zay (ps : String) : (chk10 ps)[29]? = some (zio ps) := rfl
theorem zhv (ps : String) : (chk10 ps)[30]? = some (zin ps) := rfl
theorem zhu (ps : String) : (chk10 ps)[31]? = some (zim ps) := rfl
theorem zht (ps : String) : (chk10 ps)[32]? = some (zil ps) := rfl
theorem zhs (ps : String) : (chk10 ps)[33]? = some (zik ps) := rfl
theorem zhr (ps : String) : (chk10 ps)[34]? = some (zij ps) := rfl
theorem zhq (ps : String) : (chk10 ps)[35]? = some (zii ps) := rfl
theorem zhp (ps : String) : (chk10 ps)[36]? = some (zih ps) := rfl
theorem zho (ps : String) : (chk10 ps)[37]? = some (zig ps) := rfl
theorem zhn (ps : String) : (chk10 ps)[38]? = some (zif ps) := rfl
theorem zhm (ps : String) : (chk10 ps)[39]? = some (zie ps) := rfl
theorem zhl (ps : String) : (chk10 ps)[40]? = some (zid ps) := rfl
theorem zhk (ps : String) : (chk10 ps)[41]? = some (zic ps) := rfl
theorem chk10_42 (ps : String) : (chk10 ps)[42]? = some (zib ps) := rfl
def chk10D : Nat → Option Tmp
 | 0 => some 100
 | 1 => some 101
 | 2 => some 102
 | 3 => some 103
 | 4 => some 104
 | 5 => some 105
 | 6 => some 106
 | 7 => some 107
 | 8 => some 108
 | 9 => some 109
 | 10 => some 110
 | 11 => some 111
 | 12 => some 112
 | 13 => some 113
 | 14 => some 114
 | 15 => some 115
 | 16 => some 116
 | 17 => some 117
 | 18 => some 118
 | 19 => some 119
 | 20 => some 120
 | 21 => some 121
 | 22 => some 122
 | 23 => some 123
 | 24 => some 124
 | 25 => some 125
 | 26 => some 126
 | 27 => some 127
 | 28 => some 128
 | 29 => some 129
 | 30 => some 130
 | 31 => some 131
 | 32 => some 132
 | 33 => some 133
 | 34 => some 134
 | 35 => some 135
 | 36 => some 136
 | 37 => some 137
 | 38 => some 138
 | 39 => some 139
 | 40 => some 140
 | 41 => some 141
 | 42 => some 142
 | _ => none
def zam (r : Pl.Rv) (h : Hd) (g pb po i m : Nat) (f last : Int) (b1 b10 d11 b23 d24 b28 b40 d41 d42 : Bool) : Nat → Value
 | 0 => .int .i64 (m : Int)
 | 1 => .bool b1
 | 2 => .bool b1
 | 3 => cond (!b1) (.pointer (some ⟨g, 2, none⟩)) undef
 | 4 => cond (!b1) (.slice (some ⟨pb, po, none⟩) h.es.length h.lc) undef
 | 5 => cond (!b1) (.int .i64 (i : Int)) undef
 | 6 => cond (!b1) (.pointer (some ⟨pb, po + i * 2, none⟩)) undef
 | 7 => cond (!b1) (.pointer (some ⟨pb, po + i * 2, none⟩)) undef
 | 8 => cond (!b1) (.int .i64 f) undef
 | 9 => cond (!b1) (.int .i64 last) undef
 | 10 => cond (!b1) (.bool b10) undef
 | 11 => .bool d11
 | 12 => .bool d11
 | 13 => cond (!d11) (.pointer (some ⟨g, 2, none⟩)) undef
 | 14 => cond (!d11) (.slice (some ⟨pb, po, none⟩) h.es.length h.lc) undef
 | 15 => cond (!d11) (.int .i64 (i : Int)) undef
 | 16 => cond (!d11) (.pointer (some ⟨pb, po + i * 2, none⟩)) undef
 | 17 => cond (!d11) (.pointer (some ⟨pb, po + i * 2, none⟩)) undef
 | 18 => cond (!d11) (.int .i64 f) undef
 | 19 => cond (!d11) (.agg #[.int .i64 r.s.n, .slice h.ua r.s.u.length h.uc, .slice h.la h.es.length h.lc, .int .i64 r.cap, .int .i64 r.shift, .int .i64 r.edge, .int .u32 r.recent, .bool r.stamps, .bool r.sacks, .int .i64 r.fin, .bool r.dn, .slice h.fa r.first.length h.fc, .int .u32 r.irs, .int .u32 r.own, .bool r.stamp]) undef
 | 20 => cond (!d11) (.int .i64 r.limit) undef
 | 21 => cond (!d11) (.int .i64 (m : Int)) undef
 | 22 => cond (!d11) (.int .i64 (r.limit - (m : Int))) undef
 | 23 => cond (!d11) (.bool b23) undef
 | 24 => .bool d24
 | 25 => .bool d24
 | 26 => cond (!d24) (.pointer (some ⟨g, 9, none⟩)) undef
 | 27 => cond (!d24) (.int .i64 r.fin) undef
 | 28 => cond (!d24) (.bool b28) undef
 | 29 => cond (!d24) (.bool b28) undef
 | 30 => cond (!d24 && b28) (.pointer (some ⟨g, 2, none⟩)) undef
 | 31 => cond (!d24 && b28) (.slice (some ⟨pb, po, none⟩) h.es.length h.lc) undef
 | 32 => cond (!d24 && b28) (.int .i64 (i : Int)) undef
 | 33 => cond (!d24 && b28) (.pointer (some ⟨pb, po + i * 2, none⟩)) undef
 | 34 => cond (!d24 && b28) (.pointer (some ⟨pb, po + i * 2, none⟩)) undef
 | 35 => cond (!d24 && b28) (.int .i64 f) undef
 | 36 => cond (!d24 && b28) (.pointer (some ⟨g, 9, none⟩)) undef
 | 37 => cond (!d24 && b28) (.int .i64 r.fin) undef
 | 38 => cond (!d24 && b28) (.int .i64 (m : Int)) undef
 | 39 => cond (!d24 && b28) (.int .i64 (r.fin - (m : Int))) undef
 | 40 => cond (!d24 && b28) (.bool b40) undef
 | 41 => cond (!d24) (.bool d41) undef
 | 42 => .bool d42
 | _ => undef
set_option maxRecDepth 100000 in
set_option maxHeartbeats 4000000 in
theorem chk10_reg {ps : String} {Q : Exit → Act → World → Prop} {a0 : Act} {W0 : World} (sz : a0.tmps.size = 199) (r : Pl.Rv) (h : Hd) (g pb po i m : Nat) (f last : Int)
 (e1 : a0.eval (.tmp 1) = .pointer (some ⟨g, 0, none⟩)) (e3 : a0.eval (.tmp 3) = .int .i64 last) (e4 : a0.eval (.tmp 4) = .int .i64 (i : Int)) (e5 : a0.eval (.tmp 5) = .int .i64 (m : Int))
 (hl : lowB r) (hb : Box W0 g 27 (rvL r h)) (hla : h.la = some ⟨pb, po, none⟩) (hi : (i : Int) < (h.es.length : Int)) (hc : W0.cell? ⟨pb, po + i * 2, none⟩ = some (.int .i64 f)) (hw1 : IntKind.i64.wrap (r.limit - (m : Int)) = r.limit - (m : Int)) (hw2 : IntKind.i64.wrap (r.fin - (m : Int)) = r.fin - (m : Int))
 {b1 b10 d11 b23 d24 b28 b40 d41 d42 : Bool} (hb1 : decide ((m : Int) < 1) = b1)
 (hb10 : decide (f ≤ last) = b10)
 (hd11 : (b1 || b10) = d11)
 (hb23 : decide ((r.limit - (m : Int)) < f) = b23)
 (hd24 : (d11 || b23) = d24)
 (hb28 : decide (0 ≤ r.fin) = b28)
 (hb40 : decide ((r.fin - (m : Int)) < f) = b40)
 (hd41 : (b28 && b40) = d41)
 (hd42 : (d24 || d41) = d42)
 (hfin : ∀ (T : Nat → Value) w, T 42 = .bool d42 → (fun w => Box w g 27 (rvL r h) ∧ Below W0.heap.size W0 w ∧ w.cell? ⟨pb, po + i * 2, none⟩ = some (.int .i64 f)) w → Q .normal (((((((((((((((((((((((((((((((((((((((((((a0.put (some 100) (T 0)).put (some 101) (T 1)).put (some 102) (T 2)).put (some 103) (T 3)).put (some 104) (T 4)).put (some 105) (T 5)).put (some 106) (T 6)).put (some 107) (T 7)).put (some 108) (T 8)).put (some 109) (T 9)).put (some 110) (T 10)).put (some 111) (T 11)).put (some 112) (T 12)).put (some 113) (T 13)).put (some 114) (T 14)).put (some 115) (T 15)).put (some 116) (T 16)).put (some 117) (T 17)).put (some 118) (T 18)).put (some 119) (T 19)).put (some 120) (T 20)).put (some 121) (T 21)).put (some 122) (T 22)).put (some 123) (T 23)).put (some 124) (T 24)).put (some 125) (T 25)).put (some 126) (T 26)).put (some 127) (T 27)).put (some 128) (T 28)).put (some 129) (T 29)).put (some 130) (T 30)).put (some 131) (T 31)).put (some 132) (T 32)).put (some 133) (T 33)).put (some 134) (T 34)).put (some 135) (T 35)).put (some 136) (T 36)).put (some 137) (T 37)).put (some 138) (T 38)).put (some 139) (T 39)).put (some 140) (T 40)).put (some 141) (T 41)).put (some 142) (T 42)) w) :
 (Code.region 10 (chk10 ps) true).wp Try.prog Q a0 W0 := by
 refine zb5 (by kernel_rfl) 43 rfl chk10D ?_ (by decide) (zam r h g pb po i m f last b1 b10 d11 b23 d24 b28 b40 d41 d42) (fun w => Box w g 27 (rvL r h) ∧ Below W0.heap.size W0 w ∧ w.cell? ⟨pb, po + i * 2, none⟩ = some (.int .i64 f)) ⟨hb.of_heap rfl, Below.drew (Below.refl _ _), hc⟩ ?_ (by rfl) (fun w hSw => hfin (zam r h g pb po i m f last b1 b10 d11 b23 d24 b28 b40 d41 d42) w rfl hSw)
 · intro jq t hj ht
   have : ∀ j, j < 43 → (chk10D j).all (· < 199) = true := by decide
   have := this jq hj
   rw [ht] at this
   rw [sz]
   simpa using this
 · intro iq o ho a w hSw hs hel K hK
   have hin : iq < 43 := (Array.getElem?_eq_some_iff.1 ho).1
   match iq, hin, ho with
   | 0, _, ho =>
   obtain rfl := Option.some.inj (ho.symm.trans (chk10_0 ps))
   have u5 : a.eval (.tmp 5) = .int .i64 (m : Int) := (hel 5 (by decide)).trans e5
   skip
   exact zae (chk10_0 ps) rfl (by unfold chk10O0 execOp; simp only [u5, zam, cond_true, cond_false, Bool.not_true, Bool.not_false, Bool.and_true, Bool.true_and, Bool.and_false, Bool.false_and]; first | (go_simp; done) | (go_simp; with_reducible rfl)) (hK w hSw)
   | 1, _, ho =>
   obtain rfl := Option.some.inj (ho.symm.trans (chk10_1 ps))
   have s0 := hs 0 100 (by rfl) rfl
   (try simp only [zam, cond_true, cond_false, Bool.not_true, Bool.not_false, Bool.and_true, Bool.true_and, Bool.and_false, Bool.false_and] at s0)
   exact zae (chk10_1 ps) rfl (by unfold chk10O1 execOp; simp only [s0, zam, cond_true, cond_false, Bool.not_true, Bool.not_false, Bool.and_true, Bool.true_and, Bool.and_false, Bool.false_and]; first | (go_simp; done) | (go_simp; with_reducible rfl)) (hK w hSw)
   | 2, _, ho =>
   obtain rfl := Option.some.inj (ho.symm.trans (zbi ps))
   have s1 := hs 1 101 (by rfl) rfl
   (try simp only [zam, cond_true, cond_false, Bool.not_true, Bool.not_false, Bool.and_true, Bool.true_and, Bool.and_false, Bool.false_and] at s1)
   exact zae (zbi ps) rfl (by unfold chk10O2 execOp; simp only [s1, zam, cond_true, cond_false, Bool.not_true, Bool.not_false, Bool.and_true, Bool.true_and, Bool.and_false, Bool.false_and]; first | (go_simp; done) | (go_simp; with_reducible rfl)) (hK w hSw)
   | 3, _, ho =>
   obtain rfl := Option.some.inj (ho.symm.trans (chk10_3 ps))
   have s2 := hs 2 102 (by rfl) rfl
   have u1 : a.eval (.tmp 1) = .pointer (some ⟨g, 0, none⟩) := (hel 1 (by decide)).trans e1
   cases b1
   all_goals ((try simp only [zam, cond_true, cond_false, Bool.not_true, Bool.not_false, Bool.and_true, Bool.true_and, Bool.and_false, Bool.false_and] at s2); first | (exact zaj (chk10_3 ps) (by rw [zab rfl (zbi ps) rfl s2]; rfl) (hK w hSw)) | (exact zae (chk10_3 ps) (by rw [zab rfl (zbi ps) rfl s2]; rfl) (by unfold chk10O3 execOp; simp only [u1, zam, cond_true, cond_false, Bool.not_true, Bool.not_false, Bool.and_true, Bool.true_and, Bool.and_false, Bool.false_and]; first | (go_simp; done) | (go_simp; with_reducible rfl)) (hK w hSw)))
   | 4, _, ho =>
   obtain rfl := Option.some.inj (ho.symm.trans (chk10_4 ps))
   have s3 := hs 3 103 (by rfl) rfl
   have s2 := hs 2 102 (by rfl) rfl
   have hcl := (hSw.1.cell 2 rfl).trans (by rw [hla])
   cases b1
   all_goals ((try simp only [zam, cond_true, cond_false, Bool.not_true, Bool.not_false, Bool.and_true, Bool.true_and, Bool.and_false, Bool.false_and] at s3 s2); first | (exact zaj (chk10_4 ps) (by rw [zab rfl (zbi ps) rfl s2]; rfl) (hK w hSw)) | (exact zae (chk10_4 ps) (by rw [zab rfl (zbi ps) rfl s2]; rfl) (by unfold chk10O4 execOp; simp only [s3, zam, cond_true, cond_false, Bool.not_true, Bool.not_false, Bool.and_true, Bool.true_and, Bool.and_false, Bool.false_and]; first | (go_simp; done) | (go_simp; with_reducible rfl)) (hK w hSw)))
   | 5, _, ho =>
   obtain rfl := Option.some.inj (ho.symm.trans (chk10_5 ps))
   have s2 := hs 2 102 (by rfl) rfl
   have u4 : a.eval (.tmp 4) = .int .i64 (i : Int) := (hel 4 (by decide)).trans e4
   cases b1
   all_goals ((try simp only [zam, cond_true, cond_false, Bool.not_true, Bool.not_false, Bool.and_true, Bool.true_and, Bool.and_false, Bool.false_and] at s2); first | (exact zaj (chk10_5 ps) (by rw [zab rfl (zbi ps) rfl s2]; rfl) (hK w hSw)) | (exact zae (chk10_5 ps) (by rw [zab rfl (zbi ps) rfl s2]; rfl) (by unfold chk10O5 execOp; simp only [u4, zam, cond_true, cond_false, Bool.not_true, Bool.not_false, Bool.and_true, Bool.true_and, Bool.and_false, Bool.false_and]; first | (go_simp; done) | (go_simp; with_reducible rfl)) (hK w hSw)))
   | 6, _, ho =>
   obtain rfl := Option.some.inj (ho.symm.trans (chk10_6 ps))
   have s4 := hs 4 104 (by rfl) rfl
   have s5 := hs 5 105 (by rfl) rfl
   have s2 := hs 2 102 (by rfl) rfl
   cases b1
   all_goals ((try simp only [zam, cond_true, cond_false, Bool.not_true, Bool.not_false, Bool.and_true, Bool.true_and, Bool.and_false, Bool.false_and] at s4 s5 s2); first | (exact zaj (chk10_6 ps) (by rw [zab rfl (zbi ps) rfl s2]; rfl) (hK w hSw)) | (exact zae (chk10_6 ps) (by rw [zab rfl (zbi ps) rfl s2]; rfl) (by unfold chk10O6 execOp; simp only [s4, s5, zam, cond_true, cond_false, Bool.not_true, Bool.not_false, Bool.and_true, Bool.true_and, Bool.and_false, Bool.false_and]; first | (go_simp; done) | (go_simp; with_reducible rfl)) (hK w hSw)))
   | 7, _, ho =>
   obtain rfl := Option.some.inj (ho.symm.trans (chk10_7 ps))
   have s6 := hs 6 106 (by rfl) rfl
   have s2 := hs 2 102 (by rfl) rfl
   cases b1
   all_goals ((try simp only [zam, cond_true, cond_false, Bool.not_true, Bool.not_false, Bool.and_true, Bool.true_and, Bool.and_false, Bool.false_and] at s6 s2); first | (exact zaj (chk10_7 ps) (by rw [zab rfl (zbi ps) rfl s2]; rfl) (hK w hSw)) | (exact zae (chk10_7 ps) (by rw [zab rfl (zbi ps) rfl s2]; rfl) (by unfold chk10O7 execOp; simp only [s6, zam, cond_true, cond_false, Bool.not_true, Bool.not_false, Bool.and_true, Bool.true_and, Bool.and_false, Bool.false_and]; first | (go_simp; done) | (go_simp; with_reducible rfl)) (hK w hSw)))
   | 8, _, ho =>
   obtain rfl := Option.some.inj (ho.symm.trans (chk10_8 ps))
   have s7 := hs 7 107 (by rfl) rfl
   have s2 := hs 2 102 (by rfl) rfl
   have hcl := hSw.2.2
   cases b1
   all_goals ((try simp only [zam, cond_true, cond_false, Bool.not_true, Bool.not_false, Bool.and_true, Bool.true_and, Bool.and_false, Bool.false_and] at s7 s2); first | (exact zaj (chk10_8 ps) (by rw [zab rfl (zbi ps) rfl s2]; rfl) (hK w hSw)) | (exact zae (chk10_8 ps) (by rw [zab rfl (zbi ps) rfl s2]; rfl) (by unfold chk10O8 execOp; simp only [s7, zam, cond_true, cond_false, Bool.not_true, Bool.not_false, Bool.and_true, Bool.true_and, Bool.and_false, Bool.false_and]; first | (go_simp; done) | (go_simp; with_reducible rfl)) (hK w hSw)))
   | 9, _, ho =>
   obtain rfl := Option.some.inj (ho.symm.trans (chk10_9 ps))
   have s2 := hs 2 102 (by rfl) rfl
   have u3 : a.eval (.tmp 3) = .int .i64 last := (hel 3 (by decide)).trans e3
   cases b1
   all_goals ((try simp only [zam, cond_true, cond_false, Bool.not_true, Bool.not_false, Bool.and_true, Bool.true_and, Bool.and_false, Bool.false_and] at s2); first | (exact zaj (chk10_9 ps) (by rw [zab rfl (zbi ps) rfl s2]; rfl) (hK w hSw)) | (exact zae (chk10_9 ps) (by rw [zab rfl (zbi ps) rfl s2]; rfl) (by unfold chk10O9 execOp; simp only [u3, zam, cond_true, cond_false, Bool.not_true, Bool.not_false, Bool.and_true, Bool.true_and, Bool.and_false, Bool.false_and]; first | (go_simp; done) | (go_simp; with_reducible rfl)) (hK w hSw)))
   | 10, _, ho =>
   obtain rfl := Option.some.inj (ho.symm.trans (zia ps))
   have s8 := hs 8 108 (by rfl) rfl
   have s9 := hs 9 109 (by rfl) rfl
   have s2 := hs 2 102 (by rfl) rfl
   cases b1
   all_goals ((try simp only [zam, cond_true, cond_false, Bool.not_true, Bool.not_false, Bool.and_true, Bool.true_and, Bool.and_false, Bool.false_and] at s8 s9 s2); first | (exact zaj (zia ps) (by rw [zab rfl (zbi ps) rfl s2]; rfl) (hK w hSw)) | (exact zae (zia ps) (by rw [zab rfl (zbi ps) rfl s2]; rfl) (by unfold zi7 execOp; simp only [s8, s9, zam, cond_true, cond_false, Bool.not_true, Bool.not_false, Bool.and_true, Bool.true_and, Bool.and_false, Bool.false_and]; first | (go_simp; done) | (go_simp; with_reducible rfl)) (hK w hSw)))
   | 11, _, ho =>
   obtain rfl := Option.some.inj (ho.symm.trans (chk10_11 ps))
   have s2 := hs 2 102 (by rfl) rfl
   have s10 := hs 10 110 (by rfl) rfl
   cases b1
   all_goals ((try simp only [zam, cond_true, cond_false, Bool.not_true, Bool.not_false, Bool.and_true, Bool.true_and, Bool.and_false, Bool.false_and] at s2 s10); (try (simp only [Bool.true_or, Bool.false_or, Bool.true_and, Bool.false_and] at hd11; subst hd11)); exact zae (chk10_11 ps) rfl (by unfold zi6 execOp; simp only [s2, s10, zam, cond_true, cond_false, Bool.not_true, Bool.not_false, Bool.and_true, Bool.true_and, Bool.and_false, Bool.false_and]; first | (go_simp; done) | (go_simp; with_reducible rfl)) (hK w hSw))
   | 12, _, ho =>
   obtain rfl := Option.some.inj (ho.symm.trans (za0 ps))
   have s11 := hs 11 111 (by rfl) rfl
   (try simp only [zam, cond_true, cond_false, Bool.not_true, Bool.not_false, Bool.and_true, Bool.true_and, Bool.and_false, Bool.false_and] at s11)
   exact zae (za0 ps) rfl (by unfold zi5 execOp; simp only [s11, zam, cond_true, cond_false, Bool.not_true, Bool.not_false, Bool.and_true, Bool.true_and, Bool.and_false, Bool.false_and]; first | (go_simp; done) | (go_simp; with_reducible rfl)) (hK w hSw)
   | 13, _, ho =>
   obtain rfl := Option.some.inj (ho.symm.trans (zh9 ps))
   have s12 := hs 12 112 (by rfl) rfl
   have u1 : a.eval (.tmp 1) = .pointer (some ⟨g, 0, none⟩) := (hel 1 (by decide)).trans e1
   cases d11
   all_goals ((try simp only [zam, cond_true, cond_false, Bool.not_true, Bool.not_false, Bool.and_true, Bool.true_and, Bool.and_false, Bool.false_and] at s12); first | (exact zaj (zh9 ps) (by rw [zab rfl (za0 ps) rfl s12]; rfl) (hK w hSw)) | (exact zae (zh9 ps) (by rw [zab rfl (za0 ps) rfl s12]; rfl) (by unfold zi4 execOp; simp only [u1, zam, cond_true, cond_false, Bool.not_true, Bool.not_false, Bool.and_true, Bool.true_and, Bool.and_false, Bool.false_and]; first | (go_simp; done) | (go_simp; with_reducible rfl)) (hK w hSw)))
   | 14, _, ho =>
   obtain rfl := Option.some.inj (ho.symm.trans (zh8 ps))
   have s13 := hs 13 113 (by rfl) rfl
   have s12 := hs 12 112 (by rfl) rfl
   have hcl := (hSw.1.cell 2 rfl).trans (by rw [hla])
   cases d11
   all_goals ((try simp only [zam, cond_true, cond_false, Bool.not_true, Bool.not_false, Bool.and_true, Bool.true_and, Bool.and_false, Bool.false_and] at s13 s12); first | (exact zaj (zh8 ps) (by rw [zab rfl (za0 ps) rfl s12]; rfl) (hK w hSw)) | (exact zae (zh8 ps) (by rw [zab rfl (za0 ps) rfl s12]; rfl) (by unfold zi3 execOp; simp only [s13, zam, cond_true, cond_false, Bool.not_true, Bool.not_false, Bool.and_true, Bool.true_and, Bool.and_false, Bool.false_and]; first | (go_simp; done) | (go_simp; with_reducible rfl)) (hK w hSw)))
   | 15, _, ho =>
   obtain rfl := Option.some.inj (ho.symm.trans (zh7 ps))
   have s12 := hs 12 112 (by rfl) rfl
   have u4 : a.eval (.tmp 4) = .int .i64 (i : Int) := (hel 4 (by decide)).trans e4
   cases d11
   all_goals ((try simp only [zam, cond_true, cond_false, Bool.not_true, Bool.not_false, Bool.and_true, Bool.true_and, Bool.and_false, Bool.false_and] at s12); first | (exact zaj (zh7 ps) (by rw [zab rfl (za0 ps) rfl s12]; rfl) (hK w hSw)) | (exact zae (zh7 ps) (by rw [zab rfl (za0 ps) rfl s12]; rfl) (by unfold zi2 execOp; simp only [u4, zam, cond_true, cond_false, Bool.not_true, Bool.not_false, Bool.and_true, Bool.true_and, Bool.and_false, Bool.false_and]; first | (go_simp; done) | (go_simp; with_reducible rfl)) (hK w hSw)))
   | 16, _, ho =>
   obtain rfl := Option.some.inj (ho.symm.trans (zh6 ps))
   have s14 := hs 14 114 (by rfl) rfl
   have s15 := hs 15 115 (by rfl) rfl
   have s12 := hs 12 112 (by rfl) rfl
   cases d11
   all_goals ((try simp only [zam, cond_true, cond_false, Bool.not_true, Bool.not_false, Bool.and_true, Bool.true_and, Bool.and_false, Bool.false_and] at s14 s15 s12); first | (exact zaj (zh6 ps) (by rw [zab rfl (za0 ps) rfl s12]; rfl) (hK w hSw)) | (exact zae (zh6 ps) (by rw [zab rfl (za0 ps) rfl s12]; rfl) (by unfold zi1 execOp; simp only [s14, s15, zam, cond_true, cond_false, Bool.not_true, Bool.not_false, Bool.and_true, Bool.true_and, Bool.and_false, Bool.false_and]; first | (go_simp; done) | (go_simp; with_reducible rfl)) (hK w hSw)))
   | 17, _, ho =>
   obtain rfl := Option.some.inj (ho.symm.trans (zh5 ps))
   have s16 := hs 16 116 (by rfl) rfl
   have s12 := hs 12 112 (by rfl) rfl
   cases d11
   all_goals ((try simp only [zam, cond_true, cond_false, Bool.not_true, Bool.not_false, Bool.and_true, Bool.true_and, Bool.and_false, Bool.false_and] at s16 s12); first | (exact zaj (zh5 ps) (by rw [zab rfl (za0 ps) rfl s12]; rfl) (hK w hSw)) | (exact zae (zh5 ps) (by rw [zab rfl (za0 ps) rfl s12]; rfl) (by unfold zi0 execOp; simp only [s16, zam, cond_true, cond_false, Bool.not_true, Bool.not_false, Bool.and_true, Bool.true_and, Bool.and_false, Bool.false_and]; first | (go_simp; done) | (go_simp; with_reducible rfl)) (hK w hSw)))
   | 18, _, ho =>
   obtain rfl := Option.some.inj (ho.symm.trans (zh4 ps))
   have s17 := hs 17 117 (by rfl) rfl
   have s12 := hs 12 112 (by rfl) rfl
   have hcl := hSw.2.2
   cases d11
   all_goals ((try simp only [zam, cond_true, cond_false, Bool.not_true, Bool.not_false, Bool.and_true, Bool.true_and, Bool.and_false, Bool.false_and] at s17 s12); first | (exact zaj (zh4 ps) (by rw [zab rfl (za0 ps) rfl s12]; rfl) (hK w hSw)) | (exact zae (zh4 ps) (by rw [zab rfl (za0 ps) rfl s12]; rfl) (by unfold ziz execOp; simp only [s17, zam, cond_true, cond_false, Bool.not_true, Bool.not_false, Bool.and_true, Bool.true_and, Bool.and_false, Bool.false_and]; first | (go_simp; done) | (go_simp; with_reducible rfl)) (hK w hSw)))
   | 19, _, ho =>
   obtain rfl := Option.some.inj (ho.symm.trans (zh3 ps))
   have s12 := hs 12 112 (by rfl) rfl
   have u1 : a.eval (.tmp 1) = .pointer (some ⟨g, 0, none⟩) := (hel 1 (by decide)).trans e1
   have hcl := Box.c15 hSw.1
   cases d11
   all_goals ((try simp only [zam, cond_true, cond_false, Bool.not_true, Bool.not_false, Bool.and_true, Bool.true_and, Bool.and_false, Bool.false_and] at s12); first | (exact zaj (zh3 ps) (by rw [zab rfl (za0 ps) rfl s12]; rfl) (hK w hSw)) | (exact zae (zh3 ps) (by rw [zab rfl (za0 ps) rfl s12]; rfl) (by unfold ziy execOp; simp only [u1, zam, cond_true, cond_false, Bool.not_true, Bool.not_false, Bool.and_true, Bool.true_and, Bool.and_false, Bool.false_and]; first | (go_simp; done) | (go_simp; with_reducible rfl)) (hK w hSw)))
   | 20, _, ho =>
   obtain rfl := Option.some.inj (ho.symm.trans (zh2 ps))
   have s19 := hs 19 119 (by rfl) rfl
   have s12 := hs 12 112 (by rfl) rfl
   cases d11
   all_goals ((try simp only [zam, cond_true, cond_false, Bool.not_true, Bool.not_false, Bool.and_true, Bool.true_and, Bool.and_false, Bool.false_and] at s19 s12); first | (exact zaj (zh2 ps) (by rw [zab rfl (za0 ps) rfl s12]; rfl) (hK w hSw)) | (exact zbh (zh2 ps) (by rw [zab rfl (za0 ps) rfl s12]; rfl) (f := 41) (args := #[.agg #[.int .i64 r.s.n, .slice h.ua r.s.u.length h.uc, .slice h.la h.es.length h.lc, .int .i64 r.cap, .int .i64 r.shift, .int .i64 r.edge, .int .u32 r.recent, .bool r.stamps, .bool r.sacks, .int .i64 r.fin, .bool r.dn, .slice h.fa r.first.length h.fc, .int .u32 r.irs, .int .u32 r.own, .bool r.stamp]]) (by rw [zbp rfl enter_limit]; simp only [List.map_toArray, List.map_cons, List.map_nil, s19]; try rfl) ((zgj r h w hl).mono (fun e w' hh => ⟨_, hh.1, hK w' ⟨hSw.1.later hh.2, Below.on hSw.2.1 hh.2, (hh.2.cell (p := ⟨pb, po + i * 2, none⟩) (zac hSw.2.2)).trans hSw.2.2⟩⟩))))
   | 21, _, ho =>
   obtain rfl := Option.some.inj (ho.symm.trans (zh1 ps))
   have s12 := hs 12 112 (by rfl) rfl
   have u5 : a.eval (.tmp 5) = .int .i64 (m : Int) := (hel 5 (by decide)).trans e5
   cases d11
   all_goals ((try simp only [zam, cond_true, cond_false, Bool.not_true, Bool.not_false, Bool.and_true, Bool.true_and, Bool.and_false, Bool.false_and] at s12); first | (exact zaj (zh1 ps) (by rw [zab rfl (za0 ps) rfl s12]; rfl) (hK w hSw)) | (exact zae (zh1 ps) (by rw [zab rfl (za0 ps) rfl s12]; rfl) (by unfold zix execOp; simp only [u5, zam, cond_true, cond_false, Bool.not_true, Bool.not_false, Bool.and_true, Bool.true_and, Bool.and_false, Bool.false_and]; first | (go_simp; done) | (go_simp; with_reducible rfl)) (hK w hSw)))
   | 22, _, ho =>
   obtain rfl := Option.some.inj (ho.symm.trans (zh0 ps))
   have s20 := hs 20 120 (by rfl) rfl
   have s21 := hs 21 121 (by rfl) rfl
   have s12 := hs 12 112 (by rfl) rfl
   have hcl := hw1
   cases d11
   all_goals ((try simp only [zam, cond_true, cond_false, Bool.not_true, Bool.not_false, Bool.and_true, Bool.true_and, Bool.and_false, Bool.false_and] at s20 s21 s12); first | (exact zaj (zh0 ps) (by rw [zab rfl (za0 ps) rfl s12]; rfl) (hK w hSw)) | (exact zae (zh0 ps) (by rw [zab rfl (za0 ps) rfl s12]; rfl) (by unfold ziw execOp; simp only [s20, s21, zam, cond_true, cond_false, Bool.not_true, Bool.not_false, Bool.and_true, Bool.true_and, Bool.and_false, Bool.false_and]; first | (go_simp; done) | (go_simp; with_reducible rfl)) (hK w hSw)))
   | 23, _, ho =>
   obtain rfl := Option.some.inj (ho.symm.trans (zhz ps))
   have s18 := hs 18 118 (by rfl) rfl
   have s22 := hs 22 122 (by rfl) rfl
   have s12 := hs 12 112 (by rfl) rfl
   cases d11
   all_goals ((try simp only [zam, cond_true, cond_false, Bool.not_true, Bool.not_false, Bool.and_true, Bool.true_and, Bool.and_false, Bool.false_and] at s18 s22 s12); first | (exact zaj (zhz ps) (by rw [zab rfl (za0 ps) rfl s12]; rfl) (hK w hSw)) | (exact zae (zhz ps) (by rw [zab rfl (za0 ps) rfl s12]; rfl) (by unfold ziv execOp; simp only [s18, s22, zam, cond_true, cond_false, Bool.not_true, Bool.not_false, Bool.and_true, Bool.true_and, Bool.and_false, Bool.false_and]; first | (go_simp; done) | (go_simp; with_reducible rfl)) (hK w hSw)))
   | 24, _, ho =>
   obtain rfl := Option.some.inj (ho.symm.trans (chk10_24 ps))
   have s12 := hs 12 112 (by rfl) rfl
   have s23 := hs 23 123 (by rfl) rfl
   cases d11
   all_goals ((try simp only [zam, cond_true, cond_false, Bool.not_true, Bool.not_false, Bool.and_true, Bool.true_and, Bool.and_false, Bool.false_and] at s12 s23); (try (simp only [Bool.true_or, Bool.false_or, Bool.true_and, Bool.false_and] at hd24; subst hd24)); exact zae (chk10_24 ps) rfl (by unfold ziu execOp; simp only [s12, s23, zam, cond_true, cond_false, Bool.not_true, Bool.not_false, Bool.and_true, Bool.true_and, Bool.and_false, Bool.false_and]; first | (go_simp; done) | (go_simp; with_reducible rfl)) (hK w hSw))
   | 25, _, ho =>
   obtain rfl := Option.some.inj (ho.symm.trans (zbr ps))
   have s24 := hs 24 124 (by rfl) rfl
   (try simp only [zam, cond_true, cond_false, Bool.not_true, Bool.not_false, Bool.and_true, Bool.true_and, Bool.and_false, Bool.false_and] at s24)
   exact zae (zbr ps) rfl (by unfold zit execOp; simp only [s24, zam, cond_true, cond_false, Bool.not_true, Bool.not_false, Bool.and_true, Bool.true_and, Bool.and_false, Bool.false_and]; first | (go_simp; done) | (go_simp; with_reducible rfl)) (hK w hSw)
   | 26, _, ho =>
   obtain rfl := Option.some.inj (ho.symm.trans (zhy ps))
   have s25 := hs 25 125 (by rfl) rfl
   have u1 : a.eval (.tmp 1) = .pointer (some ⟨g, 0, none⟩) := (hel 1 (by decide)).trans e1
   cases d24
   all_goals ((try simp only [zam, cond_true, cond_false, Bool.not_true, Bool.not_false, Bool.and_true, Bool.true_and, Bool.and_false, Bool.false_and] at s25); first | (exact zaj (zhy ps) (by rw [zab rfl (zbr ps) rfl s25]; rfl) (hK w hSw)) | (exact zae (zhy ps) (by rw [zab rfl (zbr ps) rfl s25]; rfl) (by unfold zis execOp; simp only [u1, zam, cond_true, cond_false, Bool.not_true, Bool.not_false, Bool.and_true, Bool.true_and, Bool.and_false, Bool.false_and]; first | (go_simp; done) | (go_simp; with_reducible rfl)) (hK w hSw)))
   | 27, _, ho =>
   obtain rfl := Option.some.inj (ho.symm.trans (zhx ps))
   have s26 := hs 26 126 (by rfl) rfl
   have s25 := hs 25 125 (by rfl) rfl
   have hcl := hSw.1.cell 9 rfl
   cases d24
   all_goals ((try simp only [zam, cond_true, cond_false, Bool.not_true, Bool.not_false, Bool.and_true, Bool.true_and, Bool.and_false, Bool.false_and] at s26 s25); first | (exact zaj (zhx ps) (by rw [zab rfl (zbr ps) rfl s25]; rfl) (hK w hSw)) | (exact zae (zhx ps) (by rw [zab rfl (zbr ps) rfl s25]; rfl) (by unfold zir execOp; simp only [s26, zam, cond_true, cond_false, Bool.not_true, Bool.not_false, Bool.and_true, Bool.true_and, Bool.and_false, Bool.false_and]; first | (go_simp; done) | (go_simp; with_reducible rfl)) (hK w hSw)))
   | 28, _, ho =>
   obtain rfl := Option.some.inj (ho.symm.trans (zhw ps))
   have s27 := hs 27 127 (by rfl) rfl
   have s25 := hs 25 125 (by rfl) rfl
   cases d24
   all_goals ((try simp only [zam, cond_true, cond_false, Bool.not_true, Bool.not_false, Bool.and_true, Bool.true_and, Bool.and_false, Bool.false_and] at s27 s25); first | (exact zaj (zhw ps) (by rw [zab rfl (zbr ps) rfl s25]; rfl) (hK w hSw)) | (exact zae (zhw ps) (by rw [zab rfl (zbr ps) rfl s25]; rfl) (by unfold ziq execOp; simp only [s27, zam, cond_true, cond_false, Bool.not_true, Bool.not_false, Bool.and_true, Bool.true_and, Bool.and_false, Bool.false_and]; first | (go_simp; done) | (go_simp; with_reducible rfl)) (hK w hSw)))
   | 29, _, ho =>
   obtain rfl := Option.some.inj (ho.symm.trans (zay ps))
   have s28 := hs 28 128 (by rfl) rfl
   have s25 := hs 25 125 (by rfl) rfl
   cases d24
   all_goals ((try simp only [zam, cond_true, cond_false, Bool.not_true, Bool.not_false, Bool.and_true, Bool.true_and, Bool.and_false, Bool.false_and] at s28 s25); first | (exact zaj (zay ps) (by rw [zab rfl (zbr ps) rfl s25]; rfl) (hK w hSw)) | (exact zae (zay ps) (by rw [zab rfl (zbr ps) rfl s25]; rfl) (by unfold zio execOp; simp only [s28, zam, cond_true, cond_false, Bool.not_true, Bool.not_false, Bool.and_true, Bool.true_and, Bool.and_false, Bool.false_and]; first | (go_simp; done) | (go_simp; with_reducible rfl)) (hK w hSw)))
   | 30, _, ho =>
   obtain rfl := Option.some.inj (ho.symm.trans (zhv ps))
   have s29 := hs 29 129 (by rfl) rfl
   have u1 : a.eval (.tmp 1) = .pointer (some ⟨g, 0, none⟩) := (hel 1 (by decide)).trans e1
   cases d24 <;> cases b28
   all_goals ((try simp only [zam, cond_true, cond_false, Bool.not_true, Bool.not_false, Bool.and_true, Bool.true_and, Bool.and_false, Bool.false_and] at s29); first | (exact zaj (zhv ps) (by rw [zab rfl (zay ps) rfl s29]; rfl) (hK w hSw)) | (exact zae (zhv ps) (by rw [zab rfl (zay ps) rfl s29]; rfl) (by unfold zin execOp; simp only [u1, zam, cond_true, cond_false, Bool.not_true, Bool.not_false, Bool.and_true, Bool.true_and, Bool.and_false, Bool.false_and]; first | (go_simp; done) | (go_simp; with_reducible rfl)) (hK w hSw)))
   | 31, _, ho =>
   obtain rfl := Option.some.inj (ho.symm.trans (zhu ps))
   have s30 := hs 30 130 (by rfl) rfl
   have s29 := hs 29 129 (by rfl) rfl
   have hcl := (hSw.1.cell 2 rfl).trans (by rw [hla])
   cases d24 <;> cases b28
   all_goals ((try simp only [zam, cond_true, cond_false, Bool.not_true, Bool.not_false, Bool.and_true, Bool.true_and, Bool.and_false, Bool.false_and] at s30 s29); first | (exact zaj (zhu ps) (by rw [zab rfl (zay ps) rfl s29]; rfl) (hK w hSw)) | (exact zae (zhu ps) (by rw [zab rfl (zay ps) rfl s29]; rfl) (by unfold zim execOp; simp only [s30, zam, cond_true, cond_false, Bool.not_true, Bool.not_false, Bool.and_true, Bool.true_and, Bool.and_false, Bool.false_and]; first | (go_simp; done) | (go_simp; with_reducible rfl)) (hK w hSw)))
   | 32, _, ho =>
   obtain rfl := Option.some.inj (ho.symm.trans (zht ps))
   have s29 := hs 29 129 (by rfl) rfl
   have u4 : a.eval (.tmp 4) = .int .i64 (i : Int) := (hel 4 (by decide)).trans e4
   cases d24 <;> cases b28
   all_goals ((try simp only [zam, cond_true, cond_false, Bool.not_true, Bool.not_false, Bool.and_true, Bool.true_and, Bool.and_false, Bool.false_and] at s29); first | (exact zaj (zht ps) (by rw [zab rfl (zay ps) rfl s29]; rfl) (hK w hSw)) | (exact zae (zht ps) (by rw [zab rfl (zay ps) rfl s29]; rfl) (by unfold zil execOp; simp only [u4, zam, cond_true, cond_false, Bool.not_true, Bool.not_false, Bool.and_true, Bool.true_and, Bool.and_false, Bool.false_and]; first | (go_simp; done) | (go_simp; with_reducible rfl)) (hK w hSw)))
   | 33, _, ho =>
   obtain rfl := Option.some.inj (ho.symm.trans (zhs ps))
   have s31 := hs 31 131 (by rfl) rfl
   have s32 := hs 32 132 (by rfl) rfl
   have s29 := hs 29 129 (by rfl) rfl
   cases d24 <;> cases b28
   all_goals ((try simp only [zam, cond_true, cond_false, Bool.not_true, Bool.not_false, Bool.and_true, Bool.true_and, Bool.and_false, Bool.false_and] at s31 s32 s29); first | (exact zaj (zhs ps) (by rw [zab rfl (zay ps) rfl s29]; rfl) (hK w hSw)) | (exact zae (zhs ps) (by rw [zab rfl (zay ps) rfl s29]; rfl) (by unfold zik execOp; simp only [s31, s32, zam, cond_true, cond_false, Bool.not_true, Bool.not_false, Bool.and_true, Bool.true_and, Bool.and_false, Bool.false_and]; first | (go_simp; done) | (go_simp; with_reducible rfl)) (hK w hSw)))
   | 34, _, ho =>
   obtain rfl := Option.some.inj (ho.symm.trans (zhr ps))
   have s33 := hs 33 133 (by rfl) rfl
   have s29 := hs 29 129 (by rfl) rfl
   cases d24 <;> cases b28
   all_goals ((try simp only [zam, cond_true, cond_false, Bool.not_true, Bool.not_false, Bool.and_true, Bool.true_and, Bool.and_false, Bool.false_and] at s33 s29); first | (exact zaj (zhr ps) (by rw [zab rfl (zay ps) rfl s29]; rfl) (hK w hSw)) | (exact zae (zhr ps) (by rw [zab rfl (zay ps) rfl s29]; rfl) (by unfold zij execOp; simp only [s33, zam, cond_true, cond_false, Bool.not_true, Bool.not_false, Bool.and_true, Bool.true_and, Bool.and_false, Bool.false_and]; first | (go_simp; done) | (go_simp; with_reducible rfl)) (hK w hSw)))
   | 35, _, ho =>
   obtain rfl := Option.some.inj (ho.symm.trans (zhq ps))
   have s34 := hs 34 134 (by rfl) rfl
   have s29 := hs 29 129 (by rfl) rfl
   have hcl := hSw.2.2
   cases d24 <;> cases b28
   all_goals ((try simp only [zam, cond_true, cond_false, Bool.not_true, Bool.not_false, Bool.and_true, Bool.true_and, Bool.and_false, Bool.false_and] at s34 s29); first | (exact zaj (zhq ps) (by rw [zab rfl (zay ps) rfl s29]; rfl) (hK w hSw)) | (exact zae (zhq ps) (by rw [zab rfl (zay ps) rfl s29]; rfl) (by unfold zii execOp; simp only [s34, zam, cond_true, cond_false, Bool.not_true, Bool.not_false, Bool.and_true, Bool.true_and, Bool.and_false, Bool.false_and]; first | (go_simp; done) | (go_simp; with_reducible rfl)) (hK w hSw)))
   | 36, _, ho =>
   obtain rfl := Option.some.inj (ho.symm.trans (zhp ps))
   have s29 := hs 29 129 (by rfl) rfl
   have u1 : a.eval (.tmp 1) = .pointer (some ⟨g, 0, none⟩) := (hel 1 (by decide)).trans e1
   cases d24 <;> cases b28
   all_goals ((try simp only [zam, cond_true, cond_false, Bool.not_true, Bool.not_false, Bool.and_true, Bool.true_and, Bool.and_false, Bool.false_and] at s29); first | (exact zaj (zhp ps) (by rw [zab rfl (zay ps) rfl s29]; rfl) (hK w hSw)) | (exact zae (zhp ps) (by rw [zab rfl (zay ps) rfl s29]; rfl) (by unfold zih execOp; simp only [u1, zam, cond_true, cond_false, Bool.not_true, Bool.not_false, Bool.and_true, Bool.true_and, Bool.and_false, Bool.false_and]; first | (go_simp; done) | (go_simp; with_reducible rfl)) (hK w hSw)))
   | 37, _, ho =>
   obtain rfl := Option.some.inj (ho.symm.trans (zho ps))
   have s36 := hs 36 136 (by rfl) rfl
   have s29 := hs 29 129 (by rfl) rfl
   have hcl := hSw.1.cell 9 rfl
   cases d24 <;> cases b28
   all_goals ((try simp only [zam, cond_true, cond_false, Bool.not_true, Bool.not_false, Bool.and_true, Bool.true_and, Bool.and_false, Bool.false_and] at s36 s29); first | (exact zaj (zho ps) (by rw [zab rfl (zay ps) rfl s29]; rfl) (hK w hSw)) | (exact zae (zho ps) (by rw [zab rfl (zay ps) rfl s29]; rfl) (by unfold zig execOp; simp only [s36, zam, cond_true, cond_false, Bool.not_true, Bool.not_false, Bool.and_true, Bool.true_and, Bool.and_false, Bool.false_and]; first | (go_simp; done) | (go_simp; with_reducible rfl)) (hK w hSw)))
   | 38, _, ho =>
   obtain rfl := Option.some.inj (ho.symm.trans (zhn ps))
   have s29 := hs 29 129 (by rfl) rfl
   have u5 : a.eval (.tmp 5) = .int .i64 (m : Int) := (hel 5 (by decide)).trans e5
   cases d24 <;> cases b28
   all_goals ((try simp only [zam, cond_true, cond_false, Bool.not_true, Bool.not_false, Bool.and_true, Bool.true_and, Bool.and_false, Bool.false_and] at s29); first | (exact zaj (zhn ps) (by rw [zab rfl (zay ps) rfl s29]; rfl) (hK w hSw)) | (exact zae (zhn ps) (by rw [zab rfl (zay ps) rfl s29]; rfl) (by unfold zif execOp; simp only [u5, zam, cond_true, cond_false, Bool.not_true, Bool.not_false, Bool.and_true, Bool.true_and, Bool.and_false, Bool.false_and]; first | (go_simp; done) | (go_simp; with_reducible rfl)) (hK w hSw)))
   | 39, _, ho =>
   obtain rfl := Option.some.inj (ho.symm.trans (zhm ps))
   have s37 := hs 37 137 (by rfl) rfl
   have s38 := hs 38 138 (by rfl) rfl
   have s29 := hs 29 129 (by rfl) rfl
   have hcl := hw2
   cases d24 <;> cases b28
   all_goals ((try simp only [zam, cond_true, cond_false, Bool.not_true, Bool.not_false, Bool.and_true, Bool.true_and, Bool.and_false, Bool.false_and] at s37 s38 s29); first | (exact zaj (zhm ps) (by rw [zab rfl (zay ps) rfl s29]; rfl) (hK w hSw)) | (exact zae (zhm ps) (by rw [zab rfl (zay ps) rfl s29]; rfl) (by unfold zie execOp; simp only [s37, s38, zam, cond_true, cond_false, Bool.not_true, Bool.not_false, Bool.and_true, Bool.true_and, Bool.and_false, Bool.false_and]; first | (go_simp; done) | (go_simp; with_reducible rfl)) (hK w hSw)))
   | 40, _, ho =>
   obtain rfl := Option.some.inj (ho.symm.trans (zhl ps))
   have s35 := hs 35 135 (by rfl) rfl
   have s39 := hs 39 139 (by rfl) rfl
   have s29 := hs 29 129 (by rfl) rfl
   cases d24 <;> cases b28
   all_goals ((try simp only [zam, cond_true, cond_false, Bool.not_true, Bool.not_false, Bool.and_true, Bool.true_and, Bool.and_false, Bool.false_and] at s35 s39 s29); first | (exact zaj (zhl ps) (by rw [zab rfl (zay ps) rfl s29]; rfl) (hK w hSw)) | (exact zae (zhl ps) (by rw [zab rfl (zay ps) rfl s29]; rfl) (by unfold zid execOp; simp only [s35, s39, zam, cond_true, cond_false, Bool.not_true, Bool.not_false, Bool.and_true, Bool.true_and, Bool.and_false, Bool.false_and]; first | (go_simp; done) | (go_simp; with_reducible rfl)) (hK w hSw)))
   | 41, _, ho =>
   obtain rfl := Option.some.inj (ho.symm.trans (zhk ps))
   have s29 := hs 29 129 (by rfl) rfl
   have s40 := hs 40 140 (by rfl) rfl
   have s25 := hs 25 125 (by rfl) rfl
   cases d24 <;> cases b28
   all_goals ((try simp only [zam, cond_true, cond_false, Bool.not_true, Bool.not_false, Bool.and_true, Bool.true_and, Bool.and_false, Bool.false_and] at s29 s40 s25); (try (simp only [Bool.true_or, Bool.false_or, Bool.true_and, Bool.false_and] at hd41; subst hd41)); first | (exact zaj (zhk ps) (by rw [zab rfl (zbr ps) rfl s25]; rfl) (hK w hSw)) | (exact zae (zhk ps) (by rw [zab rfl (zbr ps) rfl s25]; rfl) (by unfold zic execOp; simp only [s29, s40, zam, cond_true, cond_false, Bool.not_true, Bool.not_false, Bool.and_true, Bool.true_and, Bool.and_false, Bool.false_and]; first | (go_simp; done) | (go_simp; with_reducible rfl)) (hK w hSw)))
   | 42, _, ho =>
   obtain rfl := Option.some.inj (ho.symm.trans (chk10_42 ps))
   have s25 := hs 25 125 (by rfl) rfl
   have s41 := hs 41 141 (by rfl) rfl
   cases d24
   all_goals ((try simp only [zam, cond_true, cond_false, Bool.not_true, Bool.not_false, Bool.and_true, Bool.true_and, Bool.and_false, Bool.false_and] at s25 s41); (try (simp only [Bool.true_or, Bool.false_or, Bool.true_and, Bool.false_and] at hd42; subst hd42)); exact zae (chk10_42 ps) rfl (by unfold zib execOp; simp only [s25, s41, zam, cond_true, cond_false, Bool.not_true, Bool.not_false, Bool.and_true, Bool.true_and, Bool.and_false, Bool.false_and]; first | (go_simp; done) | (go_simp; with_reducible rfl)) (hK w hSw))
   | iq + 43, hin, _ => exact absurd hin (by omega)
end Go.Proofs.Ytkigcdmlkmcdcaa

