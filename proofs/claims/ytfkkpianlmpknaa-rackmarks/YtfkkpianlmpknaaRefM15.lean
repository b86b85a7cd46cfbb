/- The document's Mark: the region that draws. -/
import Derived.Test.YtfkkpianlmpknaaLeaf
import Derived.Test.YtfkkpianlmpknaaDet
namespace Go.Proofs.Ytfkkpianlmpknaa
open Go.ChangeShapes Go.WideShapes Go.ChangeAt Go.RowKit Go.Shelf
set_option linter.unusedVariables false
set_option linter.unusedSimpArgs false
attribute [local go_sem] Oper.semAt_some

theorem enter39 (args : Array Value) (w : World) : (callFunc 39 args).run Try.prog w = .ok (.enter 39 args) w := by kernel_rfl
def rm15O0 (ps : String) : Oper := { dst := some 49, op := .move (.tmp 12), type := 46, pos := ps, after := #[], guard := none }
def rm15O1 (ps : String) : Oper := { dst := some 50, op := .move (.tmp 14), type := 3, pos := ps, after := #[], guard := none }
def rm15O2 (ps : String) : Oper := { dst := some 51, op := .indexAddr 46 (.tmp 49) (.tmp 50), type := 0, pos := ps, after := #[{ on := 0, ground := .data }, { on := 1, ground := .data }], guard := none }
def rm15O3 (ps : String) : Oper := { dst := some 52, op := .fieldAddr 25 (.tmp 51) 5, type := 0, pos := ps, after := #[{ on := 2, ground := .data }], guard := none }
def rm15O4 (ps : String) : Oper := { dst := some 53, op := .load 4 (.tmp 52), type := 4, pos := ps, after := #[{ on := 3, ground := .data }], guard := none }
def rm15O5 (ps : String) : Oper := { dst := some 54, op := .move (.tmp 53), type := 4, pos := ps, after := #[{ on := 4, ground := .data }], guard := none }
def rm15O6 (ps : String) : Oper := { dst := some 55, op := .move (.tmp 12), type := 46, pos := ps, after := #[{ on := 5, ground := .guard }], guard := some (5, false) }
def rm15O7 (ps : String) : Oper := { dst := some 56, op := .move (.tmp 14), type := 3, pos := ps, after := #[{ on := 5, ground := .guard }], guard := some (5, false) }
def rm15O8 (ps : String) : Oper := { dst := some 57, op := .indexAddr 46 (.tmp 55) (.tmp 56), type := 0, pos := ps, after := #[{ on := 6, ground := .data }, { on := 7, ground := .data }, { on := 5, ground := .guard }], guard := some (5, false) }
def rm15O9 (ps : String) : Oper := { dst := some 58, op := .fieldAddr 25 (.tmp 57) 6, type := 0, pos := ps, after := #[{ on := 8, ground := .data }, { on := 5, ground := .guard }], guard := some (5, false) }
def rm15O10 (ps : String) : Oper := { dst := some 59, op := .load 4 (.tmp 58), type := 4, pos := ps, after := #[{ on := 9, ground := .data }, { on := 5, ground := .guard }], guard := some (5, false) }
def rm15O11 (ps : String) : Oper := { dst := some 60, op := .move (.tmp 59), type := 4, pos := ps, after := #[{ on := 10, ground := .data }, { on := 5, ground := .chain }, { on := 5, ground := .guard }], guard := some (5, false) }
def rm15O12 (ps : String) : Oper := { dst := some 61, op := .move (.tmp 12), type := 46, pos := ps, after := #[{ on := 11, ground := .guard }], guard := some (11, true) }
def rm15O13 (ps : String) : Oper := { dst := some 62, op := .move (.tmp 14), type := 3, pos := ps, after := #[{ on := 11, ground := .guard }], guard := some (11, true) }
def rm15O14 (ps : String) : Oper := { dst := some 63, op := .indexAddr 46 (.tmp 61) (.tmp 62), type := 0, pos := ps, after := #[{ on := 12, ground := .data }, { on := 13, ground := .data }, { on := 11, ground := .guard }], guard := some (11, true) }
def rm15O15 (ps : String) : Oper := { dst := some 64, op := .fieldAddr 25 (.tmp 63) 7, type := 0, pos := ps, after := #[{ on := 14, ground := .data }, { on := 11, ground := .guard }], guard := some (11, true) }
def rm15O16 (ps : String) : Oper := { dst := some 65, op := .load 4 (.tmp 64), type := 4, pos := ps, after := #[{ on := 15, ground := .data }, { on := 11, ground := .guard }], guard := some (11, true) }
def rm15O17 (ps : String) : Oper := { dst := some 66, op := .unOp .not 4 (.tmp 65), type := 4, pos := ps, after := #[{ on := 16, ground := .data }, { on := 11, ground := .guard }], guard := some (11, true) }
def rm15O18 (ps : String) : Oper := { dst := some 67, op := .pick (.tmp 60) (.tmp 66) (.const (.bool false)), type := 4, pos := ps, after := #[{ on := 11, ground := .data }, { on := 17, ground := .data }, { on := 5, ground := .guard }], guard := some (5, false) }
def rm15O19 (ps : String) : Oper := { dst := some 68, op := .pick (.tmp 54) (.const (.bool true)) (.tmp 67), type := 4, pos := ps, after := #[{ on := 5, ground := .data }, { on := 18, ground := .data }], guard := none }
def rm15O20 (ps : String) : Oper := { dst := some 69, op := .move (.tmp 68), type := 4, pos := ps, after := #[{ on := 19, ground := .data }, { on := 11, ground := .chain }], guard := none }
def rm15O21 (ps : String) : Oper := { dst := some 70, op := .load 23 (.tmp 4), type := 23, pos := ps, after := #[{ on := 20, ground := .guard }], guard := some (20, false) }
def rm15O22 (ps : String) : Oper := { dst := some 71, op := .move (.tmp 12), type := 46, pos := ps, after := #[{ on := 20, ground := .guard }], guard := some (20, false) }
def rm15O23 (ps : String) : Oper := { dst := some 72, op := .move (.tmp 14), type := 3, pos := ps, after := #[{ on := 20, ground := .guard }], guard := some (20, false) }
def rm15O24 (ps : String) : Oper := { dst := some 73, op := .indexAddr 46 (.tmp 71) (.tmp 72), type := 0, pos := ps, after := #[{ on := 22, ground := .data }, { on := 23, ground := .data }, { on := 20, ground := .guard }], guard := some (20, false) }
def rm15O25 (ps : String) : Oper := { dst := some 74, op := .load 25 (.tmp 73), type := 25, pos := ps, after := #[{ on := 24, ground := .data }, { on := 20, ground := .guard }], guard := some (20, false) }
def rm15O26 (ps : String) : Oper := { dst := some 75, op := .call { callee := .value (.func 39), args := #[.tmp 70, .tmp 74], argTypes := #[23, 25] }, type := 4, pos := ps, after := #[{ on := 21, ground := .data }, { on := 25, ground := .data }, { on := 20, ground := .chain }, { on := 20, ground := .guard }], guard := some (20, false) }
def rm15O27 (ps : String) : Oper := { dst := some 76, op := .unOp .not 4 (.tmp 75), type := 4, pos := ps, after := #[{ on := 26, ground := .data }, { on := 20, ground := .guard }], guard := some (20, false) }
def rm15O28 (ps : String) : Oper := { dst := some 77, op := .pick (.tmp 69) (.const (.bool true)) (.tmp 76), type := 4, pos := ps, after := #[{ on := 20, ground := .data }, { on := 27, ground := .data }], guard := none }
def rm15 (ps : String) : Array Oper := #[rm15O0 ps, rm15O1 ps, rm15O2 ps, rm15O3 ps, rm15O4 ps, rm15O5 ps, rm15O6 ps, rm15O7 ps, rm15O8 ps, rm15O9 ps, rm15O10 ps, rm15O11 ps, rm15O12 ps, rm15O13 ps, rm15O14 ps, rm15O15 ps, rm15O16 ps, rm15O17 ps, rm15O18 ps, rm15O19 ps, rm15O20 ps, rm15O21 ps, rm15O22 ps, rm15O23 ps, rm15O24 ps, rm15O25 ps, rm15O26 ps, rm15O27 ps, rm15O28 ps]
theorem rm15_0 (ps : String) : (rm15 ps)[0]? = some (rm15O0 ps) := rfl
theorem rm15_1 (ps : String) : (rm15 ps)[1]? = some (rm15O1 ps) := rfl
theorem rm15_2 (ps : String) : (rm15 ps)[2]? = some (rm15O2 ps) := rfl
theorem rm15_3 (ps : String) : (rm15 ps)[3]? = some (rm15O3 ps) := rfl
theorem rm15_4 (ps : String) : (rm15 ps)[4]? = some (rm15O4 ps) := rfl
theorem rm15_5 (ps : String) : (rm15 ps)[5]? = some (rm15O5 ps) := rfl
theorem rm15_6 (ps : String) : (rm15 ps)[6]? = some (rm15O6 ps) := rfl
theorem rm15_7 (ps : String) : (rm15 ps)[7]? = some (rm15O7 ps) := rfl
theorem rm15_8 (ps : String) : (rm15 ps)[8]? = some (rm15O8 ps) := rfl
theorem rm15_9 (ps : String) : (rm15 ps)[9]? = some (rm15O9 ps) := rfl
theorem rm15_10 (ps : String) : (rm15 ps)[10]? = some (rm15O10 ps) := rfl
theorem rm15_11 (ps : String) : (rm15 ps)[11]? = some (rm15O11 ps) := rfl
theorem rm15_12 (ps : String) : (rm15 ps)[12]? = some (rm15O12 ps) := rfl
theorem rm15_13 (ps : String) : (rm15 ps)[13]? = some (rm15O13 ps) := rfl
theorem rm15_14 (ps : String) : (rm15 ps)[14]? = some (rm15O14 ps) := rfl
theorem rm15_15 (ps : String) : (rm15 ps)[15]? = some (rm15O15 ps) := rfl
theorem rm15_16 (ps : String) : (rm15 ps)[16]? = some (rm15O16 ps) := rfl
theorem rm15_17 (ps : String) : (rm15 ps)[17]? = some (rm15O17 ps) := rfl
theorem rm15_18 (ps : String) : (rm15 ps)[18]? = some (rm15O18 ps) := rfl
theorem rm15_19 (ps : String) : (rm15 ps)[19]? = some (rm15O19 ps) := rfl
theorem rm15_20 (ps : String) : (rm15 ps)[20]? = some (rm15O20 ps) := rfl
theorem rm15_21 (ps : String) : (rm15 ps)[21]? = some (rm15O21 ps) := rfl
theorem rm15_22 (ps : String) : (rm15 ps)[22]? = some (rm15O22 ps) := rfl
theorem rm15_23 (ps : String) : (rm15 ps)[23]? = some (rm15O23 ps) := rfl
theorem rm15_24 (ps : String) : (rm15 ps)[24]? = some (rm15O24 ps) := rfl
theorem rm15_25 (ps : String) : (rm15 ps)[25]? = some (rm15O25 ps) := rfl
theorem rm15_26 (ps : String) : (rm15 ps)[26]? = some (rm15O26 ps) := rfl
theorem rm15_27 (ps : String) : (rm15 ps)[27]? = some (rm15O27 ps) := rfl
theorem rm15_28 (ps : String) : (rm15 ps)[28]? = some (rm15O28 ps) := rfl
def rm15D : Nat → Option Tmp
  | 0 => some 49
  | 1 => some 50
  | 2 => some 51
  | 3 => some 52
  | 4 => some 53
  | 5 => some 54
  | 6 => some 55
  | 7 => some 56
  | 8 => some 57
  | 9 => some 58
  | 10 => some 59
  | 11 => some 60
  | 12 => some 61
  | 13 => some 62
  | 14 => some 63
  | 15 => some 64
  | 16 => some 65
  | 17 => some 66
  | 18 => some 67
  | 19 => some 68
  | 20 => some 69
  | 21 => some 70
  | 22 => some 71
  | 23 => some 72
  | 24 => some 73
  | 25 => some 74
  | 26 => some 75
  | 27 => some 76
  | 28 => some 77
  | _ => none
def rm15T (gk g i n c : Nat) (ks ke kr : Int) (kn : Bool) (kf km ko kl : Int) (xf xt : Int) (xn : Bool) (xs xx : Int) (xg xh xj : Int) (xi : Bool) (b101 b201 b202 b203 d17 d18 d19 d27 d28 : Bool) : Nat → Value
  | 0 => .slice (some ⟨g, 0, none⟩) n c
  | 1 => .int .i64 (i : Int)
  | 2 => .pointer (some ⟨g, i * 12, none⟩)
  | 3 => .pointer (some ⟨g, i * 12 + 5, none⟩)
  | 4 => .bool b201
  | 5 => .bool b201
  | 6 => cond (!b201) (.slice (some ⟨g, 0, none⟩) n c) undef
  | 7 => cond (!b201) (.int .i64 (i : Int)) undef
  | 8 => cond (!b201) (.pointer (some ⟨g, i * 12, none⟩)) undef
  | 9 => cond (!b201) (.pointer (some ⟨g, i * 12 + 6, none⟩)) undef
  | 10 => cond (!b201) (.bool b202) undef
  | 11 => cond (!b201) (.bool b202) undef
  | 12 => cond (!b201 && b202) (.slice (some ⟨g, 0, none⟩) n c) undef
  | 13 => cond (!b201 && b202) (.int .i64 (i : Int)) undef
  | 14 => cond (!b201 && b202) (.pointer (some ⟨g, i * 12, none⟩)) undef
  | 15 => cond (!b201 && b202) (.pointer (some ⟨g, i * 12 + 7, none⟩)) undef
  | 16 => cond (!b201 && b202) (.bool b203) undef
  | 17 => cond (!b201 && b202) (.bool d17) undef
  | 18 => cond (!b201) (.bool d18) undef
  | 19 => .bool d19
  | 20 => .bool d19
  | 21 => cond (!d19) (.agg #[.int .i64 ks, .int .i64 ke, .int .i64 kr, .bool kn, .int .i64 kf, .int .i64 km, .int .i64 ko, .int .i64 kl]) undef
  | 22 => cond (!d19) (.slice (some ⟨g, 0, none⟩) n c) undef
  | 23 => cond (!d19) (.int .i64 (i : Int)) undef
  | 24 => cond (!d19) (.pointer (some ⟨g, i * 12, none⟩)) undef
  | 25 => cond (!d19) (.agg #[.int .i64 xf, .int .i64 xt, .bool xn, .int .i64 xs, .int .i64 xx, .bool b201, .bool b202, .bool b203, .int .i64 xg, .int .i64 xh, .int .i64 xj, .bool xi]) undef
  | 26 => cond (!d19) (.bool b101) undef
  | 27 => cond (!d19) (.bool d27) undef
  | 28 => .bool d28
  | _ => undef
set_option maxRecDepth 100000 in
set_option maxHeartbeats 4000000 in
theorem rm15_reg {ps : String} {Q : Exit → Act → World → Prop} {a0 : Act} {W0 : World} (sz : a0.tmps.size = 106) (gk g i n c : Nat) (ks ke kr : Int) (kn : Bool) (kf km ko kl : Int) (xf xt : Int) (xn : Bool) (xs xx : Int) (xg xh xj : Int) (xi : Bool)
    (e12 : a0.eval (.tmp 12) = .slice (some ⟨g, 0, none⟩) n c) (e14 : a0.eval (.tmp 14) = .int .i64 (i : Int)) (e4 : a0.eval (.tmp 4) = .pointer (some ⟨gk, 0, none⟩))
    {b101 b201 b202 b203 : Bool} (hb101 : ahB ⟨ks, ke, kr, kn, kf, km, ko, kl⟩ ⟨xf, xt, xn, xs, xx, b201, b202, b203, xg, xh, xj, xi⟩ = b101) (hi : (i : Int) < (n : Int)) (hS : (fun w => BoxK w gk (.int .i64 ks) (.int .i64 ke) (.int .i64 kr) (.bool kn) (.int .i64 kf) (.int .i64 km) (.int .i64 ko) (.int .i64 kl) ∧ (w.cell? ⟨g, i * 12, none⟩ = some (.int .i64 xf) ∧ w.cell? ⟨g, i * 12 + 1, none⟩ = some (.int .i64 xt) ∧ w.cell? ⟨g, i * 12 + 2, none⟩ = some (.bool xn) ∧ w.cell? ⟨g, i * 12 + 3, none⟩ = some (.int .i64 xs) ∧ w.cell? ⟨g, i * 12 + 4, none⟩ = some (.int .i64 xx) ∧ w.cell? ⟨g, i * 12 + 5, none⟩ = some (.bool b201) ∧ w.cell? ⟨g, i * 12 + 6, none⟩ = some (.bool b202) ∧ w.cell? ⟨g, i * 12 + 7, none⟩ = some (.bool b203) ∧ w.cell? ⟨g, i * 12 + 8, none⟩ = some (.int .i64 xg) ∧ w.cell? ⟨g, i * 12 + 9, none⟩ = some (.int .i64 xh) ∧ w.cell? ⟨g, i * 12 + 10, none⟩ = some (.int .i64 xj) ∧ w.cell? ⟨g, i * 12 + 11, none⟩ = some (.bool xi)) ∧ Below W0.heap.size W0 w) W0.drew)
    {d17 d18 d19 d27 d28 : Bool} (hd17 : (!b203) = d17)
    (hd18 : (b202 && d17) = d18)
    (hd19 : (b201 || d18) = d19)
    (hd27 : (!b101) = d27)
    (hd28 : (d19 || d27) = d28)
    (hfin : ∀ (T : Nat → Value) w, T 28 = .bool d28 → (fun w => BoxK w gk (.int .i64 ks) (.int .i64 ke) (.int .i64 kr) (.bool kn) (.int .i64 kf) (.int .i64 km) (.int .i64 ko) (.int .i64 kl) ∧ (w.cell? ⟨g, i * 12, none⟩ = some (.int .i64 xf) ∧ w.cell? ⟨g, i * 12 + 1, none⟩ = some (.int .i64 xt) ∧ w.cell? ⟨g, i * 12 + 2, none⟩ = some (.bool xn) ∧ w.cell? ⟨g, i * 12 + 3, none⟩ = some (.int .i64 xs) ∧ w.cell? ⟨g, i * 12 + 4, none⟩ = some (.int .i64 xx) ∧ w.cell? ⟨g, i * 12 + 5, none⟩ = some (.bool b201) ∧ w.cell? ⟨g, i * 12 + 6, none⟩ = some (.bool b202) ∧ w.cell? ⟨g, i * 12 + 7, none⟩ = some (.bool b203) ∧ w.cell? ⟨g, i * 12 + 8, none⟩ = some (.int .i64 xg) ∧ w.cell? ⟨g, i * 12 + 9, none⟩ = some (.int .i64 xh) ∧ w.cell? ⟨g, i * 12 + 10, none⟩ = some (.int .i64 xj) ∧ w.cell? ⟨g, i * 12 + 11, none⟩ = some (.bool xi)) ∧ Below W0.heap.size W0 w) w → Q .normal (((((((((((((((((((((((((((((a0.put (some 49) (T 0)).put (some 50) (T 1)).put (some 51) (T 2)).put (some 52) (T 3)).put (some 53) (T 4)).put (some 54) (T 5)).put (some 55) (T 6)).put (some 56) (T 7)).put (some 57) (T 8)).put (some 58) (T 9)).put (some 59) (T 10)).put (some 60) (T 11)).put (some 61) (T 12)).put (some 62) (T 13)).put (some 63) (T 14)).put (some 64) (T 15)).put (some 65) (T 16)).put (some 66) (T 17)).put (some 67) (T 18)).put (some 68) (T 19)).put (some 69) (T 20)).put (some 70) (T 21)).put (some 71) (T 22)).put (some 72) (T 23)).put (some 73) (T 24)).put (some 74) (T 25)).put (some 75) (T 26)).put (some 76) (T 27)).put (some 77) (T 28)) w) :
    (Code.region 15 (rm15 ps) true).wp Try.prog Q a0 W0 := by
  refine wp_region_det (by kernel_rfl) 29 rfl rm15D ?_ (by decide) (rm15T gk g i n c ks ke kr kn kf km ko kl xf xt xn xs xx xg xh xj xi b101 b201 b202 b203 d17 d18 d19 d27 d28) (fun w => BoxK w gk (.int .i64 ks) (.int .i64 ke) (.int .i64 kr) (.bool kn) (.int .i64 kf) (.int .i64 km) (.int .i64 ko) (.int .i64 kl) ∧ (w.cell? ⟨g, i * 12, none⟩ = some (.int .i64 xf) ∧ w.cell? ⟨g, i * 12 + 1, none⟩ = some (.int .i64 xt) ∧ w.cell? ⟨g, i * 12 + 2, none⟩ = some (.bool xn) ∧ w.cell? ⟨g, i * 12 + 3, none⟩ = some (.int .i64 xs) ∧ w.cell? ⟨g, i * 12 + 4, none⟩ = some (.int .i64 xx) ∧ w.cell? ⟨g, i * 12 + 5, none⟩ = some (.bool b201) ∧ w.cell? ⟨g, i * 12 + 6, none⟩ = some (.bool b202) ∧ w.cell? ⟨g, i * 12 + 7, none⟩ = some (.bool b203) ∧ w.cell? ⟨g, i * 12 + 8, none⟩ = some (.int .i64 xg) ∧ w.cell? ⟨g, i * 12 + 9, none⟩ = some (.int .i64 xh) ∧ w.cell? ⟨g, i * 12 + 10, none⟩ = some (.int .i64 xj) ∧ w.cell? ⟨g, i * 12 + 11, none⟩ = some (.bool xi)) ∧ Below W0.heap.size W0 w) hS ?_ (by rfl) (fun w hSw => hfin (rm15T gk g i n c ks ke kr kn kf km ko kl xf xt xn xs xx xg xh xj xi b101 b201 b202 b203 d17 d18 d19 d27 d28) w rfl hSw)
  · intro jq t hj ht
    have : ∀ j, j < 29 → (rm15D j).all (· < 106) = true := by decide
    have := this jq hj
    rw [ht] at this
    rw [sz]
    simpa using this
  · intro iq o ho a w hSw hs hel K hK
    have hin : iq < 29 := (Array.getElem?_eq_some_iff.1 ho).1
    match iq, hin, ho with
    | 0, _, ho =>
    obtain rfl := Option.some.inj (ho.symm.trans (rm15_0 ps))
    have u12 : a.eval (.tmp 12) = .slice (some ⟨g, 0, none⟩) n c := (hel 12 (by decide)).trans e12
    skip
    exact op_valW (rm15_0 ps) rfl (by unfold rm15O0 execOp; simp only [u12, rm15T, cond_true, cond_false, Bool.not_true, Bool.not_false, Bool.and_true, Bool.true_and, Bool.and_false, Bool.false_and]; first | (go_simp; done) | (go_simp; with_reducible rfl)) (hK w hSw)
    | 1, _, ho =>
    obtain rfl := Option.some.inj (ho.symm.trans (rm15_1 ps))
    have u14 : a.eval (.tmp 14) = .int .i64 (i : Int) := (hel 14 (by decide)).trans e14
    skip
    exact op_valW (rm15_1 ps) rfl (by unfold rm15O1 execOp; simp only [u14, rm15T, cond_true, cond_false, Bool.not_true, Bool.not_false, Bool.and_true, Bool.true_and, Bool.and_false, Bool.false_and]; first | (go_simp; done) | (go_simp; with_reducible rfl)) (hK w hSw)
    | 2, _, ho =>
    obtain rfl := Option.some.inj (ho.symm.trans (rm15_2 ps))
    have s0 := hs 0 49 (by rfl) rfl
    have s1 := hs 1 50 (by rfl) rfl
    (try simp only [rm15T, cond_true, cond_false, Bool.not_true, Bool.not_false, Bool.and_true, Bool.true_and, Bool.and_false, Bool.false_and] at s0 s1)
    exact op_valW (rm15_2 ps) rfl (by unfold rm15O2 execOp; simp only [s0, s1, rm15T, cond_true, cond_false, Bool.not_true, Bool.not_false, Bool.and_true, Bool.true_and, Bool.and_false, Bool.false_and]; first | (go_simp; done) | (go_simp; with_reducible rfl)) (hK w hSw)
    | 3, _, ho =>
    obtain rfl := Option.some.inj (ho.symm.trans (rm15_3 ps))
    have s2 := hs 2 51 (by rfl) rfl
    (try simp only [rm15T, cond_true, cond_false, Bool.not_true, Bool.not_false, Bool.and_true, Bool.true_and, Bool.and_false, Bool.false_and] at s2)
    exact op_valW (rm15_3 ps) rfl (by unfold rm15O3 execOp; simp only [s2, rm15T, cond_true, cond_false, Bool.not_true, Bool.not_false, Bool.and_true, Bool.true_and, Bool.and_false, Bool.false_and]; first | (go_simp; done) | (go_simp; with_reducible rfl)) (hK w hSw)
    | 4, _, ho =>
    obtain rfl := Option.some.inj (ho.symm.trans (rm15_4 ps))
    have s3 := hs 3 52 (by rfl) rfl
    have hcl := hSw.2.1.2.2.2.2.2.1
    (try simp only [rm15T, cond_true, cond_false, Bool.not_true, Bool.not_false, Bool.and_true, Bool.true_and, Bool.and_false, Bool.false_and] at s3)
    exact op_valW (rm15_4 ps) rfl (by unfold rm15O4 execOp; simp only [s3, rm15T, cond_true, cond_false, Bool.not_true, Bool.not_false, Bool.and_true, Bool.true_and, Bool.and_false, Bool.false_and]; first | (go_simp; done) | (go_simp; with_reducible rfl)) (hK w hSw)
    | 5, _, ho =>
    obtain rfl := Option.some.inj (ho.symm.trans (rm15_5 ps))
    have s4 := hs 4 53 (by rfl) rfl
    (try simp only [rm15T, cond_true, cond_false, Bool.not_true, Bool.not_false, Bool.and_true, Bool.true_and, Bool.and_false, Bool.false_and] at s4)
    exact op_valW (rm15_5 ps) rfl (by unfold rm15O5 execOp; simp only [s4, rm15T, cond_true, cond_false, Bool.not_true, Bool.not_false, Bool.and_true, Bool.true_and, Bool.and_false, Bool.false_and]; first | (go_simp; done) | (go_simp; with_reducible rfl)) (hK w hSw)
    | 6, _, ho =>
    obtain rfl := Option.some.inj (ho.symm.trans (rm15_6 ps))
    have s5 := hs 5 54 (by rfl) rfl
    have u12 : a.eval (.tmp 12) = .slice (some ⟨g, 0, none⟩) n c := (hel 12 (by decide)).trans e12
    cases b201
    all_goals ((try simp only [rm15T, cond_true, cond_false, Bool.not_true, Bool.not_false, Bool.and_true, Bool.true_and, Bool.and_false, Bool.false_and] at s5); first | (exact op_skip (rm15_6 ps) (by rw [wanted_of rfl (rm15_5 ps) rfl s5]; rfl) (hK w hSw)) | (exact op_valW (rm15_6 ps) (by rw [wanted_of rfl (rm15_5 ps) rfl s5]; rfl) (by unfold rm15O6 execOp; simp only [u12, rm15T, cond_true, cond_false, Bool.not_true, Bool.not_false, Bool.and_true, Bool.true_and, Bool.and_false, Bool.false_and]; first | (go_simp; done) | (go_simp; with_reducible rfl)) (hK w hSw)))
    | 7, _, ho =>
    obtain rfl := Option.some.inj (ho.symm.trans (rm15_7 ps))
    have s5 := hs 5 54 (by rfl) rfl
    have u14 : a.eval (.tmp 14) = .int .i64 (i : Int) := (hel 14 (by decide)).trans e14
    cases b201
    all_goals ((try simp only [rm15T, cond_true, cond_false, Bool.not_true, Bool.not_false, Bool.and_true, Bool.true_and, Bool.and_false, Bool.false_and] at s5); first | (exact op_skip (rm15_7 ps) (by rw [wanted_of rfl (rm15_5 ps) rfl s5]; rfl) (hK w hSw)) | (exact op_valW (rm15_7 ps) (by rw [wanted_of rfl (rm15_5 ps) rfl s5]; rfl) (by unfold rm15O7 execOp; simp only [u14, rm15T, cond_true, cond_false, Bool.not_true, Bool.not_false, Bool.and_true, Bool.true_and, Bool.and_false, Bool.false_and]; first | (go_simp; done) | (go_simp; with_reducible rfl)) (hK w hSw)))
    | 8, _, ho =>
    obtain rfl := Option.some.inj (ho.symm.trans (rm15_8 ps))
    have s6 := hs 6 55 (by rfl) rfl
    have s7 := hs 7 56 (by rfl) rfl
    have s5 := hs 5 54 (by rfl) rfl
    cases b201
    all_goals ((try simp only [rm15T, cond_true, cond_false, Bool.not_true, Bool.not_false, Bool.and_true, Bool.true_and, Bool.and_false, Bool.false_and] at s6 s7 s5); first | (exact op_skip (rm15_8 ps) (by rw [wanted_of rfl (rm15_5 ps) rfl s5]; rfl) (hK w hSw)) | (exact op_valW (rm15_8 ps) (by rw [wanted_of rfl (rm15_5 ps) rfl s5]; rfl) (by unfold rm15O8 execOp; simp only [s6, s7, rm15T, cond_true, cond_false, Bool.not_true, Bool.not_false, Bool.and_true, Bool.true_and, Bool.and_false, Bool.false_and]; first | (go_simp; done) | (go_simp; with_reducible rfl)) (hK w hSw)))
    | 9, _, ho =>
    obtain rfl := Option.some.inj (ho.symm.trans (rm15_9 ps))
    have s8 := hs 8 57 (by rfl) rfl
    have s5 := hs 5 54 (by rfl) rfl
    cases b201
    all_goals ((try simp only [rm15T, cond_true, cond_false, Bool.not_true, Bool.not_false, Bool.and_true, Bool.true_and, Bool.and_false, Bool.false_and] at s8 s5); first | (exact op_skip (rm15_9 ps) (by rw [wanted_of rfl (rm15_5 ps) rfl s5]; rfl) (hK w hSw)) | (exact op_valW (rm15_9 ps) (by rw [wanted_of rfl (rm15_5 ps) rfl s5]; rfl) (by unfold rm15O9 execOp; simp only [s8, rm15T, cond_true, cond_false, Bool.not_true, Bool.not_false, Bool.and_true, Bool.true_and, Bool.and_false, Bool.false_and]; first | (go_simp; done) | (go_simp; with_reducible rfl)) (hK w hSw)))
    | 10, _, ho =>
    obtain rfl := Option.some.inj (ho.symm.trans (rm15_10 ps))
    have s9 := hs 9 58 (by rfl) rfl
    have s5 := hs 5 54 (by rfl) rfl
    have hcl := hSw.2.1.2.2.2.2.2.2.1
    cases b201
    all_goals ((try simp only [rm15T, cond_true, cond_false, Bool.not_true, Bool.not_false, Bool.and_true, Bool.true_and, Bool.and_false, Bool.false_and] at s9 s5); first | (exact op_skip (rm15_10 ps) (by rw [wanted_of rfl (rm15_5 ps) rfl s5]; rfl) (hK w hSw)) | (exact op_valW (rm15_10 ps) (by rw [wanted_of rfl (rm15_5 ps) rfl s5]; rfl) (by unfold rm15O10 execOp; simp only [s9, rm15T, cond_true, cond_false, Bool.not_true, Bool.not_false, Bool.and_true, Bool.true_and, Bool.and_false, Bool.false_and]; first | (go_simp; done) | (go_simp; with_reducible rfl)) (hK w hSw)))
    | 11, _, ho =>
    obtain rfl := Option.some.inj (ho.symm.trans (rm15_11 ps))
    have s10 := hs 10 59 (by rfl) rfl
    have s5 := hs 5 54 (by rfl) rfl
    cases b201
    all_goals ((try simp only [rm15T, cond_true, cond_false, Bool.not_true, Bool.not_false, Bool.and_true, Bool.true_and, Bool.and_false, Bool.false_and] at s10 s5); first | (exact op_skip (rm15_11 ps) (by rw [wanted_of rfl (rm15_5 ps) rfl s5]; rfl) (hK w hSw)) | (exact op_valW (rm15_11 ps) (by rw [wanted_of rfl (rm15_5 ps) rfl s5]; rfl) (by unfold rm15O11 execOp; simp only [s10, rm15T, cond_true, cond_false, Bool.not_true, Bool.not_false, Bool.and_true, Bool.true_and, Bool.and_false, Bool.false_and]; first | (go_simp; done) | (go_simp; with_reducible rfl)) (hK w hSw)))
    | 12, _, ho =>
    obtain rfl := Option.some.inj (ho.symm.trans (rm15_12 ps))
    have s11 := hs 11 60 (by rfl) rfl
    have u12 : a.eval (.tmp 12) = .slice (some ⟨g, 0, none⟩) n c := (hel 12 (by decide)).trans e12
    cases b201 <;> cases b202
    all_goals ((try simp only [rm15T, cond_true, cond_false, Bool.not_true, Bool.not_false, Bool.and_true, Bool.true_and, Bool.and_false, Bool.false_and] at s11); first | (exact op_skip (rm15_12 ps) (by rw [wanted_of rfl (rm15_11 ps) rfl s11]; rfl) (hK w hSw)) | (exact op_valW (rm15_12 ps) (by rw [wanted_of rfl (rm15_11 ps) rfl s11]; rfl) (by unfold rm15O12 execOp; simp only [u12, rm15T, cond_true, cond_false, Bool.not_true, Bool.not_false, Bool.and_true, Bool.true_and, Bool.and_false, Bool.false_and]; first | (go_simp; done) | (go_simp; with_reducible rfl)) (hK w hSw)))
    | 13, _, ho =>
    obtain rfl := Option.some.inj (ho.symm.trans (rm15_13 ps))
    have s11 := hs 11 60 (by rfl) rfl
    have u14 : a.eval (.tmp 14) = .int .i64 (i : Int) := (hel 14 (by decide)).trans e14
    cases b201 <;> cases b202
    all_goals ((try simp only [rm15T, cond_true, cond_false, Bool.not_true, Bool.not_false, Bool.and_true, Bool.true_and, Bool.and_false, Bool.false_and] at s11); first | (exact op_skip (rm15_13 ps) (by rw [wanted_of rfl (rm15_11 ps) rfl s11]; rfl) (hK w hSw)) | (exact op_valW (rm15_13 ps) (by rw [wanted_of rfl (rm15_11 ps) rfl s11]; rfl) (by unfold rm15O13 execOp; simp only [u14, rm15T, cond_true, cond_false, Bool.not_true, Bool.not_false, Bool.and_true, Bool.true_and, Bool.and_false, Bool.false_and]; first | (go_simp; done) | (go_simp; with_reducible rfl)) (hK w hSw)))
    | 14, _, ho =>
    obtain rfl := Option.some.inj (ho.symm.trans (rm15_14 ps))
    have s12 := hs 12 61 (by rfl) rfl
    have s13 := hs 13 62 (by rfl) rfl
    have s11 := hs 11 60 (by rfl) rfl
    cases b201 <;> cases b202
    all_goals ((try simp only [rm15T, cond_true, cond_false, Bool.not_true, Bool.not_false, Bool.and_true, Bool.true_and, Bool.and_false, Bool.false_and] at s12 s13 s11); first | (exact op_skip (rm15_14 ps) (by rw [wanted_of rfl (rm15_11 ps) rfl s11]; rfl) (hK w hSw)) | (exact op_valW (rm15_14 ps) (by rw [wanted_of rfl (rm15_11 ps) rfl s11]; rfl) (by unfold rm15O14 execOp; simp only [s12, s13, rm15T, cond_true, cond_false, Bool.not_true, Bool.not_false, Bool.and_true, Bool.true_and, Bool.and_false, Bool.false_and]; first | (go_simp; done) | (go_simp; with_reducible rfl)) (hK w hSw)))
    | 15, _, ho =>
    obtain rfl := Option.some.inj (ho.symm.trans (rm15_15 ps))
    have s14 := hs 14 63 (by rfl) rfl
    have s11 := hs 11 60 (by rfl) rfl
    cases b201 <;> cases b202
    all_goals ((try simp only [rm15T, cond_true, cond_false, Bool.not_true, Bool.not_false, Bool.and_true, Bool.true_and, Bool.and_false, Bool.false_and] at s14 s11); first | (exact op_skip (rm15_15 ps) (by rw [wanted_of rfl (rm15_11 ps) rfl s11]; rfl) (hK w hSw)) | (exact op_valW (rm15_15 ps) (by rw [wanted_of rfl (rm15_11 ps) rfl s11]; rfl) (by unfold rm15O15 execOp; simp only [s14, rm15T, cond_true, cond_false, Bool.not_true, Bool.not_false, Bool.and_true, Bool.true_and, Bool.and_false, Bool.false_and]; first | (go_simp; done) | (go_simp; with_reducible rfl)) (hK w hSw)))
    | 16, _, ho =>
    obtain rfl := Option.some.inj (ho.symm.trans (rm15_16 ps))
    have s15 := hs 15 64 (by rfl) rfl
    have s11 := hs 11 60 (by rfl) rfl
    have hcl := hSw.2.1.2.2.2.2.2.2.2.1
    cases b201 <;> cases b202
    all_goals ((try simp only [rm15T, cond_true, cond_false, Bool.not_true, Bool.not_false, Bool.and_true, Bool.true_and, Bool.and_false, Bool.false_and] at s15 s11); first | (exact op_skip (rm15_16 ps) (by rw [wanted_of rfl (rm15_11 ps) rfl s11]; rfl) (hK w hSw)) | (exact op_valW (rm15_16 ps) (by rw [wanted_of rfl (rm15_11 ps) rfl s11]; rfl) (by unfold rm15O16 execOp; simp only [s15, rm15T, cond_true, cond_false, Bool.not_true, Bool.not_false, Bool.and_true, Bool.true_and, Bool.and_false, Bool.false_and]; first | (go_simp; done) | (go_simp; with_reducible rfl)) (hK w hSw)))
    | 17, _, ho =>
    obtain rfl := Option.some.inj (ho.symm.trans (rm15_17 ps))
    have s16 := hs 16 65 (by rfl) rfl
    have s11 := hs 11 60 (by rfl) rfl
    cases b201 <;> cases b202
    all_goals ((try simp only [rm15T, cond_true, cond_false, Bool.not_true, Bool.not_false, Bool.and_true, Bool.true_and, Bool.and_false, Bool.false_and] at s16 s11); subst hd17; first | (exact op_skip (rm15_17 ps) (by rw [wanted_of rfl (rm15_11 ps) rfl s11]; rfl) (hK w hSw)) | (exact op_valW (rm15_17 ps) (by rw [wanted_of rfl (rm15_11 ps) rfl s11]; rfl) (by unfold rm15O17 execOp; simp only [s16, rm15T, cond_true, cond_false, Bool.not_true, Bool.not_false, Bool.and_true, Bool.true_and, Bool.and_false, Bool.false_and]; first | (go_simp; done) | (go_simp; with_reducible rfl)) (hK w hSw)))
    | 18, _, ho =>
    obtain rfl := Option.some.inj (ho.symm.trans (rm15_18 ps))
    have s11 := hs 11 60 (by rfl) rfl
    have s17 := hs 17 66 (by rfl) rfl
    have s5 := hs 5 54 (by rfl) rfl
    cases b201 <;> cases b202
    all_goals ((try simp only [rm15T, cond_true, cond_false, Bool.not_true, Bool.not_false, Bool.and_true, Bool.true_and, Bool.and_false, Bool.false_and] at s11 s17 s5); (try (simp only [Bool.true_or, Bool.false_or, Bool.true_and, Bool.false_and] at hd18; subst hd18)); first | (exact op_skip (rm15_18 ps) (by rw [wanted_of rfl (rm15_5 ps) rfl s5]; rfl) (hK w hSw)) | (exact op_valW (rm15_18 ps) (by rw [wanted_of rfl (rm15_5 ps) rfl s5]; rfl) (by unfold rm15O18 execOp; simp only [s11, s17, rm15T, cond_true, cond_false, Bool.not_true, Bool.not_false, Bool.and_true, Bool.true_and, Bool.and_false, Bool.false_and]; first | (go_simp; done) | (go_simp; with_reducible rfl)) (hK w hSw)))
    | 19, _, ho =>
    obtain rfl := Option.some.inj (ho.symm.trans (rm15_19 ps))
    have s5 := hs 5 54 (by rfl) rfl
    have s18 := hs 18 67 (by rfl) rfl
    cases b201
    all_goals ((try simp only [rm15T, cond_true, cond_false, Bool.not_true, Bool.not_false, Bool.and_true, Bool.true_and, Bool.and_false, Bool.false_and] at s5 s18); (try (simp only [Bool.true_or, Bool.false_or, Bool.true_and, Bool.false_and] at hd19; subst hd19)); exact op_valW (rm15_19 ps) rfl (by unfold rm15O19 execOp; simp only [s5, s18, rm15T, cond_true, cond_false, Bool.not_true, Bool.not_false, Bool.and_true, Bool.true_and, Bool.and_false, Bool.false_and]; first | (go_simp; done) | (go_simp; with_reducible rfl)) (hK w hSw))
    | 20, _, ho =>
    obtain rfl := Option.some.inj (ho.symm.trans (rm15_20 ps))
    have s19 := hs 19 68 (by rfl) rfl
    (try simp only [rm15T, cond_true, cond_false, Bool.not_true, Bool.not_false, Bool.and_true, Bool.true_and, Bool.and_false, Bool.false_and] at s19)
    exact op_valW (rm15_20 ps) rfl (by unfold rm15O20 execOp; simp only [s19, rm15T, cond_true, cond_false, Bool.not_true, Bool.not_false, Bool.and_true, Bool.true_and, Bool.and_false, Bool.false_and]; first | (go_simp; done) | (go_simp; with_reducible rfl)) (hK w hSw)
    | 21, _, ho =>
    obtain rfl := Option.some.inj (ho.symm.trans (rm15_21 ps))
    have s20 := hs 20 69 (by rfl) rfl
    have u4 : a.eval (.tmp 4) = .pointer (some ⟨gk, 0, none⟩) := (hel 4 (by decide)).trans e4
    have hcl := hSw.1.cells
    cases d19
    all_goals ((try simp only [rm15T, cond_true, cond_false, Bool.not_true, Bool.not_false, Bool.and_true, Bool.true_and, Bool.and_false, Bool.false_and] at s20); first | (exact op_skip (rm15_21 ps) (by rw [wanted_of rfl (rm15_20 ps) rfl s20]; rfl) (hK w hSw)) | (exact op_valW (rm15_21 ps) (by rw [wanted_of rfl (rm15_20 ps) rfl s20]; rfl) (by unfold rm15O21 execOp; simp only [u4, rm15T, cond_true, cond_false, Bool.not_true, Bool.not_false, Bool.and_true, Bool.true_and, Bool.and_false, Bool.false_and]; first | (go_simp; done) | (go_simp; with_reducible rfl)) (hK w hSw)))
    | 22, _, ho =>
    obtain rfl := Option.some.inj (ho.symm.trans (rm15_22 ps))
    have s20 := hs 20 69 (by rfl) rfl
    have u12 : a.eval (.tmp 12) = .slice (some ⟨g, 0, none⟩) n c := (hel 12 (by decide)).trans e12
    cases d19
    all_goals ((try simp only [rm15T, cond_true, cond_false, Bool.not_true, Bool.not_false, Bool.and_true, Bool.true_and, Bool.and_false, Bool.false_and] at s20); first | (exact op_skip (rm15_22 ps) (by rw [wanted_of rfl (rm15_20 ps) rfl s20]; rfl) (hK w hSw)) | (exact op_valW (rm15_22 ps) (by rw [wanted_of rfl (rm15_20 ps) rfl s20]; rfl) (by unfold rm15O22 execOp; simp only [u12, rm15T, cond_true, cond_false, Bool.not_true, Bool.not_false, Bool.and_true, Bool.true_and, Bool.and_false, Bool.false_and]; first | (go_simp; done) | (go_simp; with_reducible rfl)) (hK w hSw)))
    | 23, _, ho =>
    obtain rfl := Option.some.inj (ho.symm.trans (rm15_23 ps))
    have s20 := hs 20 69 (by rfl) rfl
    have u14 : a.eval (.tmp 14) = .int .i64 (i : Int) := (hel 14 (by decide)).trans e14
    cases d19
    all_goals ((try simp only [rm15T, cond_true, cond_false, Bool.not_true, Bool.not_false, Bool.and_true, Bool.true_and, Bool.and_false, Bool.false_and] at s20); first | (exact op_skip (rm15_23 ps) (by rw [wanted_of rfl (rm15_20 ps) rfl s20]; rfl) (hK w hSw)) | (exact op_valW (rm15_23 ps) (by rw [wanted_of rfl (rm15_20 ps) rfl s20]; rfl) (by unfold rm15O23 execOp; simp only [u14, rm15T, cond_true, cond_false, Bool.not_true, Bool.not_false, Bool.and_true, Bool.true_and, Bool.and_false, Bool.false_and]; first | (go_simp; done) | (go_simp; with_reducible rfl)) (hK w hSw)))
    | 24, _, ho =>
    obtain rfl := Option.some.inj (ho.symm.trans (rm15_24 ps))
    have s22 := hs 22 71 (by rfl) rfl
    have s23 := hs 23 72 (by rfl) rfl
    have s20 := hs 20 69 (by rfl) rfl
    cases d19
    all_goals ((try simp only [rm15T, cond_true, cond_false, Bool.not_true, Bool.not_false, Bool.and_true, Bool.true_and, Bool.and_false, Bool.false_and] at s22 s23 s20); first | (exact op_skip (rm15_24 ps) (by rw [wanted_of rfl (rm15_20 ps) rfl s20]; rfl) (hK w hSw)) | (exact op_valW (rm15_24 ps) (by rw [wanted_of rfl (rm15_20 ps) rfl s20]; rfl) (by unfold rm15O24 execOp; simp only [s22, s23, rm15T, cond_true, cond_false, Bool.not_true, Bool.not_false, Bool.and_true, Bool.true_and, Bool.and_false, Bool.false_and]; first | (go_simp; done) | (go_simp; with_reducible rfl)) (hK w hSw)))
    | 25, _, ho =>
    obtain rfl := Option.some.inj (ho.symm.trans (rm15_25 ps))
    have s24 := hs 24 73 (by rfl) rfl
    have s20 := hs 20 69 (by rfl) rfl
    have hcl := hSw.2.1
    cases d19
    all_goals ((try simp only [rm15T, cond_true, cond_false, Bool.not_true, Bool.not_false, Bool.and_true, Bool.true_and, Bool.and_false, Bool.false_and] at s24 s20); first | (exact op_skip (rm15_25 ps) (by rw [wanted_of rfl (rm15_20 ps) rfl s20]; rfl) (hK w hSw)) | (exact op_valW (rm15_25 ps) (by rw [wanted_of rfl (rm15_20 ps) rfl s20]; rfl) (by unfold rm15O25 execOp; simp only [s24, rm15T, cond_true, cond_false, Bool.not_true, Bool.not_false, Bool.and_true, Bool.true_and, Bool.and_false, Bool.false_and]; first | (go_simp; done) | (go_simp; with_reducible rfl)) (hK w hSw)))
    | 26, _, ho =>
    obtain rfl := Option.some.inj (ho.symm.trans (rm15_26 ps))
    have s21 := hs 21 70 (by rfl) rfl
    have s25 := hs 25 74 (by rfl) rfl
    have s20 := hs 20 69 (by rfl) rfl
    cases d19
    all_goals ((try simp only [rm15T, cond_true, cond_false, Bool.not_true, Bool.not_false, Bool.and_true, Bool.true_and, Bool.and_false, Bool.false_and] at s21 s25 s20); first | (exact op_skip (rm15_26 ps) (by rw [wanted_of rfl (rm15_20 ps) rfl s20]; rfl) (hK w hSw)) | (exact op_enterW (rm15_26 ps) (by rw [wanted_of rfl (rm15_20 ps) rfl s20]; rfl) (f := 39) (args := #[.agg #[.int .i64 ks, .int .i64 ke, .int .i64 kr, .bool kn, .int .i64 kf, .int .i64 km, .int .i64 ko, .int .i64 kl], .agg #[.int .i64 xf, .int .i64 xt, .bool xn, .int .i64 xs, .int .i64 xx, .bool b201, .bool b202, .bool b203, .int .i64 xg, .int .i64 xh, .int .i64 xj, .bool xi]]) (by rw [run_call rfl enter39]; simp only [List.map_toArray, List.map_cons, List.map_nil, s21, s25]; try rfl) ((ahead_is ks ke kr kn kf km ko kl ⟨xf, xt, xn, xs, xx, b201, b202, b203, xg, xh, xj, xi⟩ b101 hb101 w).mono (fun e w' hh => ⟨_, hh.1, hK w' ⟨hSw.1.later hh.2, ⟨(hh.2.cell (p := ⟨g, i * 12, none⟩) (lt_of_cell hSw.2.1.1)).trans hSw.2.1.1, (hh.2.cell (p := ⟨g, i * 12 + 1, none⟩) (lt_of_cell hSw.2.1.2.1)).trans hSw.2.1.2.1, (hh.2.cell (p := ⟨g, i * 12 + 2, none⟩) (lt_of_cell hSw.2.1.2.2.1)).trans hSw.2.1.2.2.1, (hh.2.cell (p := ⟨g, i * 12 + 3, none⟩) (lt_of_cell hSw.2.1.2.2.2.1)).trans hSw.2.1.2.2.2.1, (hh.2.cell (p := ⟨g, i * 12 + 4, none⟩) (lt_of_cell hSw.2.1.2.2.2.2.1)).trans hSw.2.1.2.2.2.2.1, (hh.2.cell (p := ⟨g, i * 12 + 5, none⟩) (lt_of_cell hSw.2.1.2.2.2.2.2.1)).trans hSw.2.1.2.2.2.2.2.1, (hh.2.cell (p := ⟨g, i * 12 + 6, none⟩) (lt_of_cell hSw.2.1.2.2.2.2.2.2.1)).trans hSw.2.1.2.2.2.2.2.2.1, (hh.2.cell (p := ⟨g, i * 12 + 7, none⟩) (lt_of_cell hSw.2.1.2.2.2.2.2.2.2.1)).trans hSw.2.1.2.2.2.2.2.2.2.1, (hh.2.cell (p := ⟨g, i * 12 + 8, none⟩) (lt_of_cell hSw.2.1.2.2.2.2.2.2.2.2.1)).trans hSw.2.1.2.2.2.2.2.2.2.2.1, (hh.2.cell (p := ⟨g, i * 12 + 9, none⟩) (lt_of_cell hSw.2.1.2.2.2.2.2.2.2.2.2.1)).trans hSw.2.1.2.2.2.2.2.2.2.2.2.1, (hh.2.cell (p := ⟨g, i * 12 + 10, none⟩) (lt_of_cell hSw.2.1.2.2.2.2.2.2.2.2.2.2.1)).trans hSw.2.1.2.2.2.2.2.2.2.2.2.2.1, (hh.2.cell (p := ⟨g, i * 12 + 11, none⟩) (lt_of_cell hSw.2.1.2.2.2.2.2.2.2.2.2.2.2)).trans hSw.2.1.2.2.2.2.2.2.2.2.2.2.2⟩, Below.on hSw.2.2 hh.2⟩⟩))))
    | 27, _, ho =>
    obtain rfl := Option.some.inj (ho.symm.trans (rm15_27 ps))
    have s26 := hs 26 75 (by rfl) rfl
    have s20 := hs 20 69 (by rfl) rfl
    cases d19
    all_goals ((try simp only [rm15T, cond_true, cond_false, Bool.not_true, Bool.not_false, Bool.and_true, Bool.true_and, Bool.and_false, Bool.false_and] at s26 s20); subst hd27; first | (exact op_skip (rm15_27 ps) (by rw [wanted_of rfl (rm15_20 ps) rfl s20]; rfl) (hK w hSw)) | (exact op_valW (rm15_27 ps) (by rw [wanted_of rfl (rm15_20 ps) rfl s20]; rfl) (by unfold rm15O27 execOp; simp only [s26, rm15T, cond_true, cond_false, Bool.not_true, Bool.not_false, Bool.and_true, Bool.true_and, Bool.and_false, Bool.false_and]; first | (go_simp; done) | (go_simp; with_reducible rfl)) (hK w hSw)))
    | 28, _, ho =>
    obtain rfl := Option.some.inj (ho.symm.trans (rm15_28 ps))
    have s20 := hs 20 69 (by rfl) rfl
    have s27 := hs 27 76 (by rfl) rfl
    cases d19
    all_goals ((try simp only [rm15T, cond_true, cond_false, Bool.not_true, Bool.not_false, Bool.and_true, Bool.true_and, Bool.and_false, Bool.false_and] at s20 s27); (try (simp only [Bool.true_or, Bool.false_or, Bool.true_and, Bool.false_and] at hd28; subst hd28)); exact op_valW (rm15_28 ps) rfl (by unfold rm15O28 execOp; simp only [s20, s27, rm15T, cond_true, cond_false, Bool.not_true, Bool.not_false, Bool.and_true, Bool.true_and, Bool.and_false, Bool.false_and]; first | (go_simp; done) | (go_simp; with_reducible rfl)) (hK w hSw))
    | iq + 29, hin, _ => exact absurd hin (by omega)
end Go.Proofs.Ytfkkpianlmpknaa
