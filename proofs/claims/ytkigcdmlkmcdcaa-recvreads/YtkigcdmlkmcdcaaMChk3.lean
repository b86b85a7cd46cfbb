/- The document's Check: region 3. -/
import Derived.Test.YtkigcdmlkmcdcaaZ
import Derived.Test.YtkigcdmlkmcdcaaMRefChkA
import Derived.Test.YtkigcdmlkmcdcaaMDet
namespace Go.Proofs.Ytkigcdmlkmcdcaa
open Go.ChangeShapes Go.WideShapes Go.ChangeAt Go.RowKit
set_option linter.unusedVariables false
set_option linter.unusedSimpArgs false

theorem enter_reach (args : Array Value) (w : World) : (callFunc 45 args).run Try.prog w = .ok (.enter 45 args) w := by kernel_rfl
def chk3O0 (ps : String) : Oper := { dst := some 52, op := .fieldAddr 27 (.tmp 1) 9, type := 0, pos := ps, after := #[], guard := none }
def chk3O1 (ps : String) : Oper := { dst := some 53, op := .load 3 (.tmp 52), type := 3, pos := ps, after := #[{ on := 0, ground := .data }], guard := none }
def chk3O2 (ps : String) : Oper := { dst := some 54, op := .binOp .lss 3 (.tmp 53) (.const (.int .i64 (-1))) 3, type := 4, pos := ps, after := #[{ on := 1, ground := .data }], guard := none }
def chk3O3 (ps : String) : Oper := { dst := some 55, op := .move (.tmp 54), type := 4, pos := ps, after := #[{ on := 2, ground := .data }], guard := none }
def chk3O4 (ps : String) : Oper := { dst := some 56, op := .fieldAddr 27 (.tmp 1) 9, type := 0, pos := ps, after := #[{ on := 3, ground := .guard }], guard := some (3, false) }
def chk3O5 (ps : String) : Oper := { dst := some 57, op := .load 3 (.tmp 56), type := 3, pos := ps, after := #[{ on := 4, ground := .data }, { on := 3, ground := .guard }], guard := some (3, false) }
def chk3O6 (ps : String) : Oper := { dst := some 58, op := .binOp .geq 3 (.tmp 57) (.const (.int .i64 0)) 3, type := 4, pos := ps, after := #[{ on := 5, ground := .data }, { on := 3, ground := .guard }], guard := some (3, false) }
def chk3O7 (ps : String) : Oper := { dst := some 59, op := .move (.tmp 58), type := 4, pos := ps, after := #[{ on := 6, ground := .data }, { on := 3, ground := .chain }, { on := 3, ground := .guard }], guard := some (3, false) }
def chk3O8 (ps : String) : Oper := { dst := some 60, op := .fieldAddr 27 (.tmp 1) 9, type := 0, pos := ps, after := #[{ on := 7, ground := .guard }], guard := some (7, true) }
def chk3O9 (ps : String) : Oper := { dst := some 61, op := .load 3 (.tmp 60), type := 3, pos := ps, after := #[{ on := 8, ground := .data }, { on := 7, ground := .guard }], guard := some (7, true) }
def chk3O10 (ps : String) : Oper := { dst := some 62, op := .fieldAddr 27 (.tmp 1) 0, type := 0, pos := ps, after := #[{ on := 7, ground := .guard }], guard := some (7, true) }
def chk3O11 (ps : String) : Oper := { dst := some 63, op := .load 3 (.tmp 62), type := 3, pos := ps, after := #[{ on := 10, ground := .data }, { on := 7, ground := .guard }], guard := some (7, true) }
def chk3O12 (ps : String) : Oper := { dst := some 64, op := .binOp .lss 3 (.tmp 61) (.tmp 63) 3, type := 4, pos := ps, after := #[{ on := 9, ground := .data }, { on := 11, ground := .data }, { on := 7, ground := .guard }], guard := some (7, true) }
def chk3O13 (ps : String) : Oper := { dst := some 65, op := .pick (.tmp 59) (.tmp 64) (.const (.bool false)), type := 4, pos := ps, after := #[{ on := 7, ground := .data }, { on := 12, ground := .data }, { on := 3, ground := .guard }], guard := some (3, false) }
def chk3O14 (ps : String) : Oper := { dst := some 66, op := .pick (.tmp 55) (.const (.bool true)) (.tmp 65), type := 4, pos := ps, after := #[{ on := 3, ground := .data }, { on := 13, ground := .data }], guard := none }
def chk3O15 (ps : String) : Oper := { dst := some 67, op := .move (.tmp 66), type := 4, pos := ps, after := #[{ on := 14, ground := .data }, { on := 7, ground := .chain }], guard := none }
def chk3O16 (ps : String) : Oper := { dst := some 68, op := .fieldAddr 27 (.tmp 1) 9, type := 0, pos := ps, after := #[{ on := 15, ground := .guard }], guard := some (15, false) }
def chk3O17 (ps : String) : Oper := { dst := some 69, op := .load 3 (.tmp 68), type := 3, pos := ps, after := #[{ on := 16, ground := .data }, { on := 15, ground := .guard }], guard := some (15, false) }
def chk3O18 (ps : String) : Oper := { dst := some 70, op := .binOp .gtr 3 (.tmp 69) (.const (.int .i64 562949953421312)) 3, type := 4, pos := ps, after := #[{ on := 17, ground := .data }, { on := 15, ground := .guard }], guard := some (15, false) }
def chk3O19 (ps : String) : Oper := { dst := some 71, op := .pick (.tmp 67) (.const (.bool true)) (.tmp 70), type := 4, pos := ps, after := #[{ on := 15, ground := .data }, { on := 18, ground := .data }], guard := none }
def chk3O20 (ps : String) : Oper := { dst := some 72, op := .move (.tmp 71), type := 4, pos := ps, after := #[{ on := 19, ground := .data }, { on := 15, ground := .chain }], guard := none }
def chk3O21 (ps : String) : Oper := { dst := some 73, op := .fieldAddr 27 (.tmp 1) 5, type := 0, pos := ps, after := #[{ on := 20, ground := .guard }], guard := some (20, false) }
def chk3O22 (ps : String) : Oper := { dst := some 74, op := .load 3 (.tmp 73), type := 3, pos := ps, after := #[{ on := 21, ground := .data }, { on := 20, ground := .guard }], guard := some (20, false) }
def chk3O23 (ps : String) : Oper := { dst := some 75, op := .binOp .lss 3 (.tmp 74) (.const (.int .i64 0)) 3, type := 4, pos := ps, after := #[{ on := 22, ground := .data }, { on := 20, ground := .guard }], guard := some (20, false) }
def chk3O24 (ps : String) : Oper := { dst := some 76, op := .pick (.tmp 72) (.const (.bool true)) (.tmp 75), type := 4, pos := ps, after := #[{ on := 20, ground := .data }, { on := 23, ground := .data }], guard := none }
def chk3O25 (ps : String) : Oper := { dst := some 77, op := .move (.tmp 76), type := 4, pos := ps, after := #[{ on := 24, ground := .data }, { on := 20, ground := .chain }], guard := none }
def chk3O26 (ps : String) : Oper := { dst := some 78, op := .fieldAddr 27 (.tmp 1) 5, type := 0, pos := ps, after := #[{ on := 25, ground := .guard }], guard := some (25, false) }
def chk3O27 (ps : String) : Oper := { dst := some 79, op := .load 3 (.tmp 78), type := 3, pos := ps, after := #[{ on := 26, ground := .data }, { on := 25, ground := .guard }], guard := some (25, false) }
def chk3O28 (ps : String) : Oper := { dst := some 80, op := .load 27 (.tmp 1), type := 27, pos := ps, after := #[{ on := 25, ground := .guard }], guard := some (25, false) }
def chk3O29 (ps : String) : Oper := { dst := some 81, op := .call { callee := .value (.func 45), args := #[.tmp 80], argTypes := #[27] }, type := 3, pos := ps, after := #[{ on := 28, ground := .data }, { on := 25, ground := .chain }, { on := 25, ground := .guard }], guard := some (25, false) }
def chk3O30 (ps : String) : Oper := { dst := some 82, op := .binOp .gtr 3 (.tmp 79) (.tmp 81) 3, type := 4, pos := ps, after := #[{ on := 27, ground := .data }, { on := 29, ground := .data }, { on := 25, ground := .guard }], guard := some (25, false) }
def chk3O31 (ps : String) : Oper := { dst := some 83, op := .pick (.tmp 77) (.const (.bool true)) (.tmp 82), type := 4, pos := ps, after := #[{ on := 25, ground := .data }, { on := 30, ground := .data }], guard := none }
def chk3 (ps : String) : Array Oper := #[chk3O0 ps, chk3O1 ps, chk3O2 ps, chk3O3 ps, chk3O4 ps, chk3O5 ps, chk3O6 ps, chk3O7 ps, chk3O8 ps, chk3O9 ps, chk3O10 ps, chk3O11 ps, chk3O12 ps, chk3O13 ps, chk3O14 ps, chk3O15 ps, chk3O16 ps, chk3O17 ps, chk3O18 ps, chk3O19 ps, chk3O20 ps, chk3O21 ps, chk3O22 ps, chk3O23 ps, chk3O24 ps, chk3O25 ps, chk3O26 ps, chk3O27 ps, chk3O28 ps, chk3O29 ps, chk3O30 ps, chk3O31 ps]
theorem chk3_0 (ps : String) : (chk3 ps)[0]? = some (chk3O0 ps) := rfl
theorem chk3_1 (ps : String) : (chk3 ps)[1]? = some (chk3O1 ps) := rfl
theorem chk3_2 (ps : String) : (chk3 ps)[2]? = some (chk3O2 ps) := rfl
theorem zcs (ps : String) : (chk3 ps)[3]? = some (chk3O3 ps) := rfl
theorem chk3_4 (ps : String) : (chk3 ps)[4]? = some (chk3O4 ps) := rfl
theorem chk3_5 (ps : String) : (chk3 ps)[5]? = some (chk3O5 ps) := rfl
theorem chk3_6 (ps : String) : (chk3 ps)[6]? = some (chk3O6 ps) := rfl
theorem zcj (ps : String) : (chk3 ps)[7]? = some (chk3O7 ps) := rfl
theorem chk3_8 (ps : String) : (chk3 ps)[8]? = some (chk3O8 ps) := rfl
theorem chk3_9 (ps : String) : (chk3 ps)[9]? = some (chk3O9 ps) := rfl
theorem chk3_10 (ps : String) : (chk3 ps)[10]? = some (chk3O10 ps) := rfl
theorem chk3_11 (ps : String) : (chk3 ps)[11]? = some (chk3O11 ps) := rfl
theorem chk3_12 (ps : String) : (chk3 ps)[12]? = some (chk3O12 ps) := rfl
theorem chk3_13 (ps : String) : (chk3 ps)[13]? = some (chk3O13 ps) := rfl
theorem chk3_14 (ps : String) : (chk3 ps)[14]? = some (chk3O14 ps) := rfl
theorem zda (ps : String) : (chk3 ps)[15]? = some (chk3O15 ps) := rfl
theorem chk3_16 (ps : String) : (chk3 ps)[16]? = some (chk3O16 ps) := rfl
theorem chk3_17 (ps : String) : (chk3 ps)[17]? = some (chk3O17 ps) := rfl
theorem chk3_18 (ps : String) : (chk3 ps)[18]? = some (chk3O18 ps) := rfl
theorem chk3_19 (ps : String) : (chk3 ps)[19]? = some (chk3O19 ps) := rfl
theorem zc9 (ps : String) : (chk3 ps)[20]? = some (chk3O20 ps) := rfl
theorem chk3_21 (ps : String) : (chk3 ps)[21]? = some (chk3O21 ps) := rfl
theorem chk3_22 (ps : String) : (chk3 ps)[22]? = some (chk3O22 ps) := rfl
theorem chk3_23 (ps : String) : (chk3 ps)[23]? = some (chk3O23 ps) := rfl
theorem chk3_24 (ps : String) : (chk3 ps)[24]? = some (chk3O24 ps) := rfl
theorem zb3 (ps : String) : (chk3 ps)[25]? = some (chk3O25 ps) := rfl
theorem chk3_26 (ps : String) : (chk3 ps)[26]? = some (chk3O26 ps) := rfl
theorem chk3_27 (ps : String) : (chk3 ps)[27]? = some (chk3O27 ps) := rfl
theorem chk3_28 (ps : String) : (chk3 ps)[28]? = some (chk3O28 ps) := rfl
theorem chk3_29 (ps : String) : (chk3 ps)[29]? = some (chk3O29 ps) := rfl
theorem chk3_30 (ps : String) : (chk3 ps)[30]? = some (chk3O30 ps) := rfl
theorem chk3_31 (ps : String) : (chk3 ps)[31]? = some (chk3O31 ps) := rfl
def chk3D : Nat → Option Tmp
 | 0 => some 52
 | 1 => some 53
 | 2 => some 54
 | 3 => some 55
 | 4 => some 56
 | 5 => some 57
 | 6 => some 58
 | 7 => some 59
 | 8 => some 60
 | 9 => some 61
 | 10 => some 62
 | 11 => some 63
 | 12 => some 64
 | 13 => some 65
 | 14 => some 66
 | 15 => some 67
 | 16 => some 68
 | 17 => some 69
 | 18 => some 70
 | 19 => some 71
 | 20 => some 72
 | 21 => some 73
 | 22 => some 74
 | 23 => some 75
 | 24 => some 76
 | 25 => some 77
 | 26 => some 78
 | 27 => some 79
 | 28 => some 80
 | 29 => some 81
 | 30 => some 82
 | 31 => some 83
 | _ => none
def chk3T (r : Pl.Rv) (h : Hd) (g : Nat) (b2 b6 b12 d13 d14 b18 d19 b23 d24 b30 d31 : Bool) : Nat → Value
 | 0 => .pointer (some ⟨g, 9, none⟩)
 | 1 => .int .i64 r.fin
 | 2 => .bool b2
 | 3 => .bool b2
 | 4 => cond (!b2) (.pointer (some ⟨g, 9, none⟩)) undef
 | 5 => cond (!b2) (.int .i64 r.fin) undef
 | 6 => cond (!b2) (.bool b6) undef
 | 7 => cond (!b2) (.bool b6) undef
 | 8 => cond (!b2 && b6) (.pointer (some ⟨g, 9, none⟩)) undef
 | 9 => cond (!b2 && b6) (.int .i64 r.fin) undef
 | 10 => cond (!b2 && b6) (.pointer (some ⟨g, 0, none⟩)) undef
 | 11 => cond (!b2 && b6) (.int .i64 r.s.n) undef
 | 12 => cond (!b2 && b6) (.bool b12) undef
 | 13 => cond (!b2) (.bool d13) undef
 | 14 => .bool d14
 | 15 => .bool d14
 | 16 => cond (!d14) (.pointer (some ⟨g, 9, none⟩)) undef
 | 17 => cond (!d14) (.int .i64 r.fin) undef
 | 18 => cond (!d14) (.bool b18) undef
 | 19 => .bool d19
 | 20 => .bool d19
 | 21 => cond (!d19) (.pointer (some ⟨g, 5, none⟩)) undef
 | 22 => cond (!d19) (.int .i64 r.edge) undef
 | 23 => cond (!d19) (.bool b23) undef
 | 24 => .bool d24
 | 25 => .bool d24
 | 26 => cond (!d24) (.pointer (some ⟨g, 5, none⟩)) undef
 | 27 => cond (!d24) (.int .i64 r.edge) undef
 | 28 => cond (!d24) (.agg #[.int .i64 r.s.n, .slice h.ua r.s.u.length h.uc, .slice h.la h.es.length h.lc, .int .i64 r.cap, .int .i64 r.shift, .int .i64 r.edge, .int .u32 r.recent, .bool r.stamps, .bool r.sacks, .int .i64 r.fin, .bool r.dn, .slice h.fa r.first.length h.fc, .int .u32 r.irs, .int .u32 r.own, .bool r.stamp]) undef
 | 29 => cond (!d24) (.int .i64 r.reach) undef
 | 30 => cond (!d24) (.bool b30) undef
 | 31 => .bool d31
 | _ => undef
set_option maxRecDepth 100000 in
set_option maxHeartbeats 4000000 in
theorem chk3_reg {ps : String} {Q : Exit → Act → World → Prop} {a0 : Act} {W0 : World} (sz : a0.tmps.size = 199) (r : Pl.Rv) (h : Hd) (g : Nat)
 (e1 : a0.eval (.tmp 1) = .pointer (some ⟨g, 0, none⟩))
 (hl : lowB r) (hb : Box W0 g 27 (rvL r h))
 {b2 b6 b12 d13 d14 b18 d19 b23 d24 b30 d31 : Bool} (hb2 : decide (r.fin < -1) = b2)
 (hb6 : decide (0 ≤ r.fin) = b6)
 (hb12 : decide (r.fin < r.s.n) = b12)
 (hd13 : (b6 && b12) = d13)
 (hd14 : (b2 || d13) = d14)
 (hb18 : decide (562949953421312 < r.fin) = b18)
 (hd19 : (d14 || b18) = d19)
 (hb23 : decide (r.edge < 0) = b23)
 (hd24 : (d19 || b23) = d24)
 (hb30 : decide (r.reach < r.edge) = b30)
 (hd31 : (d24 || b30) = d31)
 (hfin : ∀ (T : Nat → Value) w, T 31 = .bool d31 → (fun w => Box w g 27 (rvL r h) ∧ Below W0.heap.size W0 w) w → Q .normal ((((((((((((((((((((((((((((((((a0.put (some 52) (T 0)).put (some 53) (T 1)).put (some 54) (T 2)).put (some 55) (T 3)).put (some 56) (T 4)).put (some 57) (T 5)).put (some 58) (T 6)).put (some 59) (T 7)).put (some 60) (T 8)).put (some 61) (T 9)).put (some 62) (T 10)).put (some 63) (T 11)).put (some 64) (T 12)).put (some 65) (T 13)).put (some 66) (T 14)).put (some 67) (T 15)).put (some 68) (T 16)).put (some 69) (T 17)).put (some 70) (T 18)).put (some 71) (T 19)).put (some 72) (T 20)).put (some 73) (T 21)).put (some 74) (T 22)).put (some 75) (T 23)).put (some 76) (T 24)).put (some 77) (T 25)).put (some 78) (T 26)).put (some 79) (T 27)).put (some 80) (T 28)).put (some 81) (T 29)).put (some 82) (T 30)).put (some 83) (T 31)) w) :
 (Code.region 3 (chk3 ps) true).wp Try.prog Q a0 W0 := by
 refine zb5 (by kernel_rfl) 32 rfl chk3D ?_ (by decide) (chk3T r h g b2 b6 b12 d13 d14 b18 d19 b23 d24 b30 d31) (fun w => Box w g 27 (rvL r h) ∧ Below W0.heap.size W0 w) ⟨hb.of_heap rfl, Below.drew (Below.refl _ _)⟩ ?_ (by rfl) (fun w hSw => hfin (chk3T r h g b2 b6 b12 d13 d14 b18 d19 b23 d24 b30 d31) w rfl hSw)
 · intro jq t hj ht
   have : ∀ j, j < 32 → (chk3D j).all (· < 199) = true := by decide
   have := this jq hj
   rw [ht] at this
   rw [sz]
   simpa using this
 · intro iq o ho a w hSw hs hel K hK
   have hin : iq < 32 := (Array.getElem?_eq_some_iff.1 ho).1
   match iq, hin, ho with
   | 0, _, ho =>
   obtain rfl := Option.some.inj (ho.symm.trans (chk3_0 ps))
   have u1 : a.eval (.tmp 1) = .pointer (some ⟨g, 0, none⟩) := (hel 1 (by decide)).trans e1
   skip
   exact zae (chk3_0 ps) rfl (by unfold chk3O0 execOp; simp only [u1, chk3T, cond_true, cond_false, Bool.not_true, Bool.not_false, Bool.and_true, Bool.true_and, Bool.and_false, Bool.false_and]; first | (go_simp; done) | (go_simp; with_reducible rfl)) (hK w hSw)
   | 1, _, ho =>
   obtain rfl := Option.some.inj (ho.symm.trans (chk3_1 ps))
   have s0 := hs 0 52 (by rfl) rfl
   have hcl := hSw.1.cell 9 rfl
   (try simp only [chk3T, cond_true, cond_false, Bool.not_true, Bool.not_false, Bool.and_true, Bool.true_and, Bool.and_false, Bool.false_and] at s0)
   exact zae (chk3_1 ps) rfl (by unfold chk3O1 execOp; simp only [s0, chk3T, cond_true, cond_false, Bool.not_true, Bool.not_false, Bool.and_true, Bool.true_and, Bool.and_false, Bool.false_and]; first | (go_simp; done) | (go_simp; with_reducible rfl)) (hK w hSw)
   | 2, _, ho =>
   obtain rfl := Option.some.inj (ho.symm.trans (chk3_2 ps))
   have s1 := hs 1 53 (by rfl) rfl
   (try simp only [chk3T, cond_true, cond_false, Bool.not_true, Bool.not_false, Bool.and_true, Bool.true_and, Bool.and_false, Bool.false_and] at s1)
   exact zae (chk3_2 ps) rfl (by unfold chk3O2 execOp; simp only [s1, chk3T, cond_true, cond_false, Bool.not_true, Bool.not_false, Bool.and_true, Bool.true_and, Bool.and_false, Bool.false_and]; first | (go_simp; done) | (go_simp; with_reducible rfl)) (hK w hSw)
   | 3, _, ho =>
   obtain rfl := Option.some.inj (ho.symm.trans (zcs ps))
   have s2 := hs 2 54 (by rfl) rfl
   (try simp only [chk3T, cond_true, cond_false, Bool.not_true, Bool.not_false, Bool.and_true, Bool.true_and, Bool.and_false, Bool.false_and] at s2)
   exact zae (zcs ps) rfl (by unfold chk3O3 execOp; simp only [s2, chk3T, cond_true, cond_false, Bool.not_true, Bool.not_false, Bool.and_true, Bool.true_and, Bool.and_false, Bool.false_and]; first | (go_simp; done) | (go_simp; with_reducible rfl)) (hK w hSw)
   | 4, _, ho =>
   obtain rfl := Option.some.inj (ho.symm.trans (chk3_4 ps))
   have s3 := hs 3 55 (by rfl) rfl
   have u1 : a.eval (.tmp 1) = .pointer (some ⟨g, 0, none⟩) := (hel 1 (by decide)).trans e1
   cases b2
   all_goals ((try simp only [chk3T, cond_true, cond_false, Bool.not_true, Bool.not_false, Bool.and_true, Bool.true_and, Bool.and_false, Bool.false_and] at s3); first | (exact zaj (chk3_4 ps) (by rw [zab rfl (zcs ps) rfl s3]; rfl) (hK w hSw)) | (exact zae (chk3_4 ps) (by rw [zab rfl (zcs ps) rfl s3]; rfl) (by unfold chk3O4 execOp; simp only [u1, chk3T, cond_true, cond_false, Bool.not_true, Bool.not_false, Bool.and_true, Bool.true_and, Bool.and_false, Bool.false_and]; first | (go_simp; done) | (go_simp; with_reducible rfl)) (hK w hSw)))
   | 5, _, ho =>
   obtain rfl := Option.some.inj (ho.symm.trans (chk3_5 ps))
   have s4 := hs 4 56 (by rfl) rfl
   have s3 := hs 3 55 (by rfl) rfl
   have hcl := hSw.1.cell 9 rfl
   cases b2
   all_goals ((try simp only [chk3T, cond_true, cond_false, Bool.not_true, Bool.not_false, Bool.and_true, Bool.true_and, Bool.and_false, Bool.false_and] at s4 s3); first | (exact zaj (chk3_5 ps) (by rw [zab rfl (zcs ps) rfl s3]; rfl) (hK w hSw)) | (exact zae (chk3_5 ps) (by rw [zab rfl (zcs ps) rfl s3]; rfl) (by unfold chk3O5 execOp; simp only [s4, chk3T, cond_true, cond_false, Bool.not_true, Bool.not_false, Bool.and_true, Bool.true_and, Bool.and_false, Bool.false_and]; first | (go_simp; done) | (go_simp; with_reducible rfl)) (hK w hSw)))
   | 6, _, ho =>
   obtain rfl := Option.some.inj (ho.symm.trans (chk3_6 ps))
   have s5 := hs 5 57 (by rfl) rfl
   have s3 := hs 3 55 (by rfl) rfl
   cases b2
   all_goals ((try simp only [chk3T, cond_true, cond_false, Bool.not_true, Bool.not_false, Bool.and_true, Bool.true_and, Bool.and_false, Bool.false_and] at s5 s3); first | (exact zaj (chk3_6 ps) (by rw [zab rfl (zcs ps) rfl s3]; rfl) (hK w hSw)) | (exact zae (chk3_6 ps) (by rw [zab rfl (zcs ps) rfl s3]; rfl) (by unfold chk3O6 execOp; simp only [s5, chk3T, cond_true, cond_false, Bool.not_true, Bool.not_false, Bool.and_true, Bool.true_and, Bool.and_false, Bool.false_and]; first | (go_simp; done) | (go_simp; with_reducible rfl)) (hK w hSw)))
   | 7, _, ho =>
   obtain rfl := Option.some.inj (ho.symm.trans (zcj ps))
   have s6 := hs 6 58 (by rfl) rfl
   have s3 := hs 3 55 (by rfl) rfl
   cases b2
   all_goals ((try simp only [chk3T, cond_true, cond_false, Bool.not_true, Bool.not_false, Bool.and_true, Bool.true_and, Bool.and_false, Bool.false_and] at s6 s3); first | (exact zaj (zcj ps) (by rw [zab rfl (zcs ps) rfl s3]; rfl) (hK w hSw)) | (exact zae (zcj ps) (by rw [zab rfl (zcs ps) rfl s3]; rfl) (by unfold chk3O7 execOp; simp only [s6, chk3T, cond_true, cond_false, Bool.not_true, Bool.not_false, Bool.and_true, Bool.true_and, Bool.and_false, Bool.false_and]; first | (go_simp; done) | (go_simp; with_reducible rfl)) (hK w hSw)))
   | 8, _, ho =>
   obtain rfl := Option.some.inj (ho.symm.trans (chk3_8 ps))
   have s7 := hs 7 59 (by rfl) rfl
   have u1 : a.eval (.tmp 1) = .pointer (some ⟨g, 0, none⟩) := (hel 1 (by decide)).trans e1
   cases b2 <;> cases b6
   all_goals ((try simp only [chk3T, cond_true, cond_false, Bool.not_true, Bool.not_false, Bool.and_true, Bool.true_and, Bool.and_false, Bool.false_and] at s7); first | (exact zaj (chk3_8 ps) (by rw [zab rfl (zcj ps) rfl s7]; rfl) (hK w hSw)) | (exact zae (chk3_8 ps) (by rw [zab rfl (zcj ps) rfl s7]; rfl) (by unfold chk3O8 execOp; simp only [u1, chk3T, cond_true, cond_false, Bool.not_true, Bool.not_false, Bool.and_true, Bool.true_and, Bool.and_false, Bool.false_and]; first | (go_simp; done) | (go_simp; with_reducible rfl)) (hK w hSw)))
   | 9, _, ho =>
   obtain rfl := Option.some.inj (ho.symm.trans (chk3_9 ps))
   have s8 := hs 8 60 (by rfl) rfl
   have s7 := hs 7 59 (by rfl) rfl
   have hcl := hSw.1.cell 9 rfl
   cases b2 <;> cases b6
   all_goals ((try simp only [chk3T, cond_true, cond_false, Bool.not_true, Bool.not_false, Bool.and_true, Bool.true_and, Bool.and_false, Bool.false_and] at s8 s7); first | (exact zaj (chk3_9 ps) (by rw [zab rfl (zcj ps) rfl s7]; rfl) (hK w hSw)) | (exact zae (chk3_9 ps) (by rw [zab rfl (zcj ps) rfl s7]; rfl) (by unfold chk3O9 execOp; simp only [s8, chk3T, cond_true, cond_false, Bool.not_true, Bool.not_false, Bool.and_true, Bool.true_and, Bool.and_false, Bool.false_and]; first | (go_simp; done) | (go_simp; with_reducible rfl)) (hK w hSw)))
   | 10, _, ho =>
   obtain rfl := Option.some.inj (ho.symm.trans (chk3_10 ps))
   have s7 := hs 7 59 (by rfl) rfl
   have u1 : a.eval (.tmp 1) = .pointer (some ⟨g, 0, none⟩) := (hel 1 (by decide)).trans e1
   cases b2 <;> cases b6
   all_goals ((try simp only [chk3T, cond_true, cond_false, Bool.not_true, Bool.not_false, Bool.and_true, Bool.true_and, Bool.and_false, Bool.false_and] at s7); first | (exact zaj (chk3_10 ps) (by rw [zab rfl (zcj ps) rfl s7]; rfl) (hK w hSw)) | (exact zae (chk3_10 ps) (by rw [zab rfl (zcj ps) rfl s7]; rfl) (by unfold chk3O10 execOp; simp only [u1, chk3T, cond_true, cond_false, Bool.not_true, Bool.not_false, Bool.and_true, Bool.true_and, Bool.and_false, Bool.false_and]; first | (go_simp; done) | (go_simp; with_reducible rfl)) (hK w hSw)))
   | 11, _, ho =>
   obtain rfl := Option.some.inj (ho.symm.trans (chk3_11 ps))
   have s10 := hs 10 62 (by rfl) rfl
   have s7 := hs 7 59 (by rfl) rfl
   have hcl := hSw.1.cell 0 rfl
   cases b2 <;> cases b6
   all_goals ((try simp only [chk3T, cond_true, cond_false, Bool.not_true, Bool.not_false, Bool.and_true, Bool.true_and, Bool.and_false, Bool.false_and] at s10 s7); first | (exact zaj (chk3_11 ps) (by rw [zab rfl (zcj ps) rfl s7]; rfl) (hK w hSw)) | (exact zae (chk3_11 ps) (by rw [zab rfl (zcj ps) rfl s7]; rfl) (by unfold chk3O11 execOp; simp only [s10, chk3T, cond_true, cond_false, Bool.not_true, Bool.not_false, Bool.and_true, Bool.true_and, Bool.and_false, Bool.false_and]; first | (go_simp; done) | (go_simp; with_reducible rfl)) (hK w hSw)))
   | 12, _, ho =>
   obtain rfl := Option.some.inj (ho.symm.trans (chk3_12 ps))
   have s9 := hs 9 61 (by rfl) rfl
   have s11 := hs 11 63 (by rfl) rfl
   have s7 := hs 7 59 (by rfl) rfl
   cases b2 <;> cases b6
   all_goals ((try simp only [chk3T, cond_true, cond_false, Bool.not_true, Bool.not_false, Bool.and_true, Bool.true_and, Bool.and_false, Bool.false_and] at s9 s11 s7); first | (exact zaj (chk3_12 ps) (by rw [zab rfl (zcj ps) rfl s7]; rfl) (hK w hSw)) | (exact zae (chk3_12 ps) (by rw [zab rfl (zcj ps) rfl s7]; rfl) (by unfold chk3O12 execOp; simp only [s9, s11, chk3T, cond_true, cond_false, Bool.not_true, Bool.not_false, Bool.and_true, Bool.true_and, Bool.and_false, Bool.false_and]; first | (go_simp; done) | (go_simp; with_reducible rfl)) (hK w hSw)))
   | 13, _, ho =>
   obtain rfl := Option.some.inj (ho.symm.trans (chk3_13 ps))
   have s7 := hs 7 59 (by rfl) rfl
   have s12 := hs 12 64 (by rfl) rfl
   have s3 := hs 3 55 (by rfl) rfl
   cases b2 <;> cases b6
   all_goals ((try simp only [chk3T, cond_true, cond_false, Bool.not_true, Bool.not_false, Bool.and_true, Bool.true_and, Bool.and_false, Bool.false_and] at s7 s12 s3); (try (simp only [Bool.true_or, Bool.false_or, Bool.true_and, Bool.false_and] at hd13; subst hd13)); first | (exact zaj (chk3_13 ps) (by rw [zab rfl (zcs ps) rfl s3]; rfl) (hK w hSw)) | (exact zae (chk3_13 ps) (by rw [zab rfl (zcs ps) rfl s3]; rfl) (by unfold chk3O13 execOp; simp only [s7, s12, chk3T, cond_true, cond_false, Bool.not_true, Bool.not_false, Bool.and_true, Bool.true_and, Bool.and_false, Bool.false_and]; first | (go_simp; done) | (go_simp; with_reducible rfl)) (hK w hSw)))
   | 14, _, ho =>
   obtain rfl := Option.some.inj (ho.symm.trans (chk3_14 ps))
   have s3 := hs 3 55 (by rfl) rfl
   have s13 := hs 13 65 (by rfl) rfl
   cases b2
   all_goals ((try simp only [chk3T, cond_true, cond_false, Bool.not_true, Bool.not_false, Bool.and_true, Bool.true_and, Bool.and_false, Bool.false_and] at s3 s13); (try (simp only [Bool.true_or, Bool.false_or, Bool.true_and, Bool.false_and] at hd14; subst hd14)); exact zae (chk3_14 ps) rfl (by unfold chk3O14 execOp; simp only [s3, s13, chk3T, cond_true, cond_false, Bool.not_true, Bool.not_false, Bool.and_true, Bool.true_and, Bool.and_false, Bool.false_and]; first | (go_simp; done) | (go_simp; with_reducible rfl)) (hK w hSw))
   | 15, _, ho =>
   obtain rfl := Option.some.inj (ho.symm.trans (zda ps))
   have s14 := hs 14 66 (by rfl) rfl
   (try simp only [chk3T, cond_true, cond_false, Bool.not_true, Bool.not_false, Bool.and_true, Bool.true_and, Bool.and_false, Bool.false_and] at s14)
   exact zae (zda ps) rfl (by unfold chk3O15 execOp; simp only [s14, chk3T, cond_true, cond_false, Bool.not_true, Bool.not_false, Bool.and_true, Bool.true_and, Bool.and_false, Bool.false_and]; first | (go_simp; done) | (go_simp; with_reducible rfl)) (hK w hSw)
   | 16, _, ho =>
   obtain rfl := Option.some.inj (ho.symm.trans (chk3_16 ps))
   have s15 := hs 15 67 (by rfl) rfl
   have u1 : a.eval (.tmp 1) = .pointer (some ⟨g, 0, none⟩) := (hel 1 (by decide)).trans e1
   cases d14
   all_goals ((try simp only [chk3T, cond_true, cond_false, Bool.not_true, Bool.not_false, Bool.and_true, Bool.true_and, Bool.and_false, Bool.false_and] at s15); first | (exact zaj (chk3_16 ps) (by rw [zab rfl (zda ps) rfl s15]; rfl) (hK w hSw)) | (exact zae (chk3_16 ps) (by rw [zab rfl (zda ps) rfl s15]; rfl) (by unfold chk3O16 execOp; simp only [u1, chk3T, cond_true, cond_false, Bool.not_true, Bool.not_false, Bool.and_true, Bool.true_and, Bool.and_false, Bool.false_and]; first | (go_simp; done) | (go_simp; with_reducible rfl)) (hK w hSw)))
   | 17, _, ho =>
   obtain rfl := Option.some.inj (ho.symm.trans (chk3_17 ps))
   have s16 := hs 16 68 (by rfl) rfl
   have s15 := hs 15 67 (by rfl) rfl
   have hcl := hSw.1.cell 9 rfl
   cases d14
   all_goals ((try simp only [chk3T, cond_true, cond_false, Bool.not_true, Bool.not_false, Bool.and_true, Bool.true_and, Bool.and_false, Bool.false_and] at s16 s15); first | (exact zaj (chk3_17 ps) (by rw [zab rfl (zda ps) rfl s15]; rfl) (hK w hSw)) | (exact zae (chk3_17 ps) (by rw [zab rfl (zda ps) rfl s15]; rfl) (by unfold chk3O17 execOp; simp only [s16, chk3T, cond_true, cond_false, Bool.not_true, Bool.not_false, Bool.and_true, Bool.true_and, Bool.and_false, Bool.false_and]; first | (go_simp; done) | (go_simp; with_reducible rfl)) (hK w hSw)))
   | 18, _, ho =>
   obtain rfl := Option.some.inj (ho.symm.trans (chk3_18 ps))
   have s17 := hs 17 69 (by rfl) rfl
   have s15 := hs 15 67 (by rfl) rfl
   cases d14
   all_goals ((try simp only [chk3T, cond_true, cond_false, Bool.not_true, Bool.not_false, Bool.and_true, Bool.true_and, Bool.and_false, Bool.false_and] at s17 s15); first | (exact zaj (chk3_18 ps) (by rw [zab rfl (zda ps) rfl s15]; rfl) (hK w hSw)) | (exact zae (chk3_18 ps) (by rw [zab rfl (zda ps) rfl s15]; rfl) (by unfold chk3O18 execOp; simp only [s17, chk3T, cond_true, cond_false, Bool.not_true, Bool.not_false, Bool.and_true, Bool.true_and, Bool.and_false, Bool.false_and]; first | (go_simp; done) | (go_simp; with_reducible rfl)) (hK w hSw)))
   | 19, _, ho =>
   obtain rfl := Option.some.inj (ho.symm.trans (chk3_19 ps))
   have s15 := hs 15 67 (by rfl) rfl
   have s18 := hs 18 70 (by rfl) rfl
   cases d14
   all_goals ((try simp only [chk3T, cond_true, cond_false, Bool.not_true, Bool.not_false, Bool.and_true, Bool.true_and, Bool.and_false, Bool.false_and] at s15 s18); (try (simp only [Bool.true_or, Bool.false_or, Bool.true_and, Bool.false_and] at hd19; subst hd19)); exact zae (chk3_19 ps) rfl (by unfold chk3O19 execOp; simp only [s15, s18, chk3T, cond_true, cond_false, Bool.not_true, Bool.not_false, Bool.and_true, Bool.true_and, Bool.and_false, Bool.false_and]; first | (go_simp; done) | (go_simp; with_reducible rfl)) (hK w hSw))
   | 20, _, ho =>
   obtain rfl := Option.some.inj (ho.symm.trans (zc9 ps))
   have s19 := hs 19 71 (by rfl) rfl
   (try simp only [chk3T, cond_true, cond_false, Bool.not_true, Bool.not_false, Bool.and_true, Bool.true_and, Bool.and_false, Bool.false_and] at s19)
   exact zae (zc9 ps) rfl (by unfold chk3O20 execOp; simp only [s19, chk3T, cond_true, cond_false, Bool.not_true, Bool.not_false, Bool.and_true, Bool.true_and, Bool.and_false, Bool.false_and]; first | (go_simp; done) | (go_simp; with_reducible rfl)) (hK w hSw)
   | 21, _, ho =>
   obtain rfl := Option.some.inj (ho.symm.trans (chk3_21 ps))
   have s20 := hs 20 72 (by rfl) rfl
   have u1 : a.eval (.tmp 1) = .pointer (some ⟨g, 0, none⟩) := (hel 1 (by decide)).trans e1
   cases d19
   all_goals ((try simp only [chk3T, cond_true, cond_false, Bool.not_true, Bool.not_false, Bool.and_true, Bool.true_and, Bool.and_false, Bool.false_and] at s20); first | (exact zaj (chk3_21 ps) (by rw [zab rfl (zc9 ps) rfl s20]; rfl) (hK w hSw)) | (exact zae (chk3_21 ps) (by rw [zab rfl (zc9 ps) rfl s20]; rfl) (by unfold chk3O21 execOp; simp only [u1, chk3T, cond_true, cond_false, Bool.not_true, Bool.not_false, Bool.and_true, Bool.true_and, Bool.and_false, Bool.false_and]; first | (go_simp; done) | (go_simp; with_reducible rfl)) (hK w hSw)))
   | 22, _, ho =>
   obtain rfl := Option.some.inj (ho.symm.trans (chk3_22 ps))
   have s21 := hs 21 73 (by rfl) rfl
   have s20 := hs 20 72 (by rfl) rfl
   have hcl := hSw.1.cell 5 rfl
   cases d19
   all_goals ((try simp only [chk3T, cond_true, cond_false, Bool.not_true, Bool.not_false, Bool.and_true, Bool.true_and, Bool.and_false, Bool.false_and] at s21 s20); first | (exact zaj (chk3_22 ps) (by rw [zab rfl (zc9 ps) rfl s20]; rfl) (hK w hSw)) | (exact zae (chk3_22 ps) (by rw [zab rfl (zc9 ps) rfl s20]; rfl) (by unfold chk3O22 execOp; simp only [s21, chk3T, cond_true, cond_false, Bool.not_true, Bool.not_false, Bool.and_true, Bool.true_and, Bool.and_false, Bool.false_and]; first | (go_simp; done) | (go_simp; with_reducible rfl)) (hK w hSw)))
   | 23, _, ho =>
   obtain rfl := Option.some.inj (ho.symm.trans (chk3_23 ps))
   have s22 := hs 22 74 (by rfl) rfl
   have s20 := hs 20 72 (by rfl) rfl
   cases d19
   all_goals ((try simp only [chk3T, cond_true, cond_false, Bool.not_true, Bool.not_false, Bool.and_true, Bool.true_and, Bool.and_false, Bool.false_and] at s22 s20); first | (exact zaj (chk3_23 ps) (by rw [zab rfl (zc9 ps) rfl s20]; rfl) (hK w hSw)) | (exact zae (chk3_23 ps) (by rw [zab rfl (zc9 ps) rfl s20]; rfl) (by unfold chk3O23 execOp; simp only [s22, chk3T, cond_true, cond_false, Bool.not_true, Bool.not_false, Bool.and_true, Bool.true_and, Bool.and_false, Bool.false_and]; first | (go_simp; done) | (go_simp; with_reducible rfl)) (hK w hSw)))
   | 24, _, ho =>
   obtain rfl := Option.some.inj (ho.symm.trans (chk3_24 ps))
   have s20 := hs 20 72 (by rfl) rfl
   have s23 := hs 23 75 (by rfl) rfl
   cases d19
   all_goals ((try simp only [chk3T, cond_true, cond_false, Bool.not_true, Bool.not_false, Bool.and_true, Bool.true_and, Bool.and_false, Bool.false_and] at s20 s23); (try (simp only [Bool.true_or, Bool.false_or, Bool.true_and, Bool.false_and] at hd24; subst hd24)); exact zae (chk3_24 ps) rfl (by unfold chk3O24 execOp; simp only [s20, s23, chk3T, cond_true, cond_false, Bool.not_true, Bool.not_false, Bool.and_true, Bool.true_and, Bool.and_false, Bool.false_and]; first | (go_simp; done) | (go_simp; with_reducible rfl)) (hK w hSw))
   | 25, _, ho =>
   obtain rfl := Option.some.inj (ho.symm.trans (zb3 ps))
   have s24 := hs 24 76 (by rfl) rfl
   (try simp only [chk3T, cond_true, cond_false, Bool.not_true, Bool.not_false, Bool.and_true, Bool.true_and, Bool.and_false, Bool.false_and] at s24)
   exact zae (zb3 ps) rfl (by unfold chk3O25 execOp; simp only [s24, chk3T, cond_true, cond_false, Bool.not_true, Bool.not_false, Bool.and_true, Bool.true_and, Bool.and_false, Bool.false_and]; first | (go_simp; done) | (go_simp; with_reducible rfl)) (hK w hSw)
   | 26, _, ho =>
   obtain rfl := Option.some.inj (ho.symm.trans (chk3_26 ps))
   have s25 := hs 25 77 (by rfl) rfl
   have u1 : a.eval (.tmp 1) = .pointer (some ⟨g, 0, none⟩) := (hel 1 (by decide)).trans e1
   cases d24
   all_goals ((try simp only [chk3T, cond_true, cond_false, Bool.not_true, Bool.not_false, Bool.and_true, Bool.true_and, Bool.and_false, Bool.false_and] at s25); first | (exact zaj (chk3_26 ps) (by rw [zab rfl (zb3 ps) rfl s25]; rfl) (hK w hSw)) | (exact zae (chk3_26 ps) (by rw [zab rfl (zb3 ps) rfl s25]; rfl) (by unfold chk3O26 execOp; simp only [u1, chk3T, cond_true, cond_false, Bool.not_true, Bool.not_false, Bool.and_true, Bool.true_and, Bool.and_false, Bool.false_and]; first | (go_simp; done) | (go_simp; with_reducible rfl)) (hK w hSw)))
   | 27, _, ho =>
   obtain rfl := Option.some.inj (ho.symm.trans (chk3_27 ps))
   have s26 := hs 26 78 (by rfl) rfl
   have s25 := hs 25 77 (by rfl) rfl
   have hcl := hSw.1.cell 5 rfl
   cases d24
   all_goals ((try simp only [chk3T, cond_true, cond_false, Bool.not_true, Bool.not_false, Bool.and_true, Bool.true_and, Bool.and_false, Bool.false_and] at s26 s25); first | (exact zaj (chk3_27 ps) (by rw [zab rfl (zb3 ps) rfl s25]; rfl) (hK w hSw)) | (exact zae (chk3_27 ps) (by rw [zab rfl (zb3 ps) rfl s25]; rfl) (by unfold chk3O27 execOp; simp only [s26, chk3T, cond_true, cond_false, Bool.not_true, Bool.not_false, Bool.and_true, Bool.true_and, Bool.and_false, Bool.false_and]; first | (go_simp; done) | (go_simp; with_reducible rfl)) (hK w hSw)))
   | 28, _, ho =>
   obtain rfl := Option.some.inj (ho.symm.trans (chk3_28 ps))
   have s25 := hs 25 77 (by rfl) rfl
   have u1 : a.eval (.tmp 1) = .pointer (some ⟨g, 0, none⟩) := (hel 1 (by decide)).trans e1
   have hcl := Box.c15 hSw.1
   cases d24
   all_goals ((try simp only [chk3T, cond_true, cond_false, Bool.not_true, Bool.not_false, Bool.and_true, Bool.true_and, Bool.and_false, Bool.false_and] at s25); first | (exact zaj (chk3_28 ps) (by rw [zab rfl (zb3 ps) rfl s25]; rfl) (hK w hSw)) | (exact zae (chk3_28 ps) (by rw [zab rfl (zb3 ps) rfl s25]; rfl) (by unfold chk3O28 execOp; simp only [u1, chk3T, cond_true, cond_false, Bool.not_true, Bool.not_false, Bool.and_true, Bool.true_and, Bool.and_false, Bool.false_and]; first | (go_simp; done) | (go_simp; with_reducible rfl)) (hK w hSw)))
   | 29, _, ho =>
   obtain rfl := Option.some.inj (ho.symm.trans (chk3_29 ps))
   have s28 := hs 28 80 (by rfl) rfl
   have s25 := hs 25 77 (by rfl) rfl
   cases d24
   all_goals ((try simp only [chk3T, cond_true, cond_false, Bool.not_true, Bool.not_false, Bool.and_true, Bool.true_and, Bool.and_false, Bool.false_and] at s28 s25); first | (exact zaj (chk3_29 ps) (by rw [zab rfl (zb3 ps) rfl s25]; rfl) (hK w hSw)) | (exact zbh (chk3_29 ps) (by rw [zab rfl (zb3 ps) rfl s25]; rfl) (f := 45) (args := #[.agg #[.int .i64 r.s.n, .slice h.ua r.s.u.length h.uc, .slice h.la h.es.length h.lc, .int .i64 r.cap, .int .i64 r.shift, .int .i64 r.edge, .int .u32 r.recent, .bool r.stamps, .bool r.sacks, .int .i64 r.fin, .bool r.dn, .slice h.fa r.first.length h.fc, .int .u32 r.irs, .int .u32 r.own, .bool r.stamp]]) (by rw [zbp rfl enter_reach]; simp only [List.map_toArray, List.map_cons, List.map_nil, s28]; try rfl) ((zd2 r h w hl).mono (fun e w' hh => ⟨_, hh.1, hK w' ⟨hSw.1.later hh.2, Below.on hSw.2 hh.2⟩⟩))))
   | 30, _, ho =>
   obtain rfl := Option.some.inj (ho.symm.trans (chk3_30 ps))
   have s27 := hs 27 79 (by rfl) rfl
   have s29 := hs 29 81 (by rfl) rfl
   have s25 := hs 25 77 (by rfl) rfl
   cases d24
   all_goals ((try simp only [chk3T, cond_true, cond_false, Bool.not_true, Bool.not_false, Bool.and_true, Bool.true_and, Bool.and_false, Bool.false_and] at s27 s29 s25); first | (exact zaj (chk3_30 ps) (by rw [zab rfl (zb3 ps) rfl s25]; rfl) (hK w hSw)) | (exact zae (chk3_30 ps) (by rw [zab rfl (zb3 ps) rfl s25]; rfl) (by unfold chk3O30 execOp; simp only [s27, s29, chk3T, cond_true, cond_false, Bool.not_true, Bool.not_false, Bool.and_true, Bool.true_and, Bool.and_false, Bool.false_and]; first | (go_simp; done) | (go_simp; with_reducible rfl)) (hK w hSw)))
   | 31, _, ho =>
   obtain rfl := Option.some.inj (ho.symm.trans (chk3_31 ps))
   have s25 := hs 25 77 (by rfl) rfl
   have s30 := hs 30 82 (by rfl) rfl
   cases d24
   all_goals ((try simp only [chk3T, cond_true, cond_false, Bool.not_true, Bool.not_false, Bool.and_true, Bool.true_and, Bool.and_false, Bool.false_and] at s25 s30); (try (simp only [Bool.true_or, Bool.false_or, Bool.true_and, Bool.false_and] at hd31; subst hd31)); exact zae (chk3_31 ps) rfl (by unfold chk3O31 execOp; simp only [s25, s30, chk3T, cond_true, cond_false, Bool.not_true, Bool.not_false, Bool.and_true, Bool.true_and, Bool.and_false, Bool.false_and]; first | (go_simp; done) | (go_simp; with_reducible rfl)) (hK w hSw))
   | iq + 32, hin, _ => exact absurd hin (by omega)
end Go.Proofs.Ytkigcdmlkmcdcaa

