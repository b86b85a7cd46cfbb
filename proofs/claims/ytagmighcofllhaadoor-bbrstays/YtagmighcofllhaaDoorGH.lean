/- Texts: ERefC, ERefCheck, ERefPut, EHeads -/
import Derived.Test.YtagmighcofllhaaDoorGE
import Derived.Test.YtagmighcofllhaaDoorGF
import Derived.Lib.AppendZeros
namespace Go.Proofs.YtagmighcofllhaaDoor.Fil
open Go.ChangeShapes Go.WideShapes Go.ChangeAt Go.RowKit Go.Shelf
set_option linter.unusedVariables false
set_option linter.unusedSimpArgs false

theorem enter71 (args : Array Value) (w : World) : (callFunc 71 args).run Tryd.prog w = .ok (.enter 71 args) w := by kernel_rfl
theorem enter72 (args : Array Value) (w : World) : (callFunc 72 args).run Tryd.prog w = .ok (.enter 72 args) w := by kernel_rfl
theorem cell_heap {w W0 : World} (h : w.heap = W0.heap) {p : Addr} {v : Value} (hc : W0.cell? p = some v) : w.cell? p = some v := by unfold World.cell? at *; rw [h]; exact hc
theorem refTime_is (t : Int) (w : World) (b : Bool) (hb : timeB t = b) : Calls Tryd.prog 71 #[.int .i64 t] w fun e w' => e = .returned (.bool b) ∧ w' = w := by subst hb; exact refTime_walk t w
theorem refValue_is (t : Int) (w : World) (b : Bool) (hb : valB t = b) : Calls Tryd.prog 72 #[.int .i64 t] w fun e w' => e = .returned (.bool b) ∧ w' = w := by subst hb; exact refValue_walk t w
def rck4O0 (ps : String) : Oper := { dst := some 12, op := .move (.tmp 0), type := 24, pos := ps, after := #[], guard := none }
def rck4O1 (ps : String) : Oper := { dst := some 13, op := .move (.tmp 5), type := 3, pos := ps, after := #[], guard := none }
def rck4O2 (ps : String) : Oper := { dst := some 14, op := .indexAddr 24 (.tmp 12) (.tmp 13), type := 0, pos := ps, after := #[{ on := 0, ground := .data }, { on := 1, ground := .data }], guard := none }
def rck4O3 (ps : String) : Oper := { dst := some 15, op := .fieldAddr 61 (.tmp 14) 0, type := 0, pos := ps, after := #[{ on := 2, ground := .data }], guard := none }
def rck4O4 (ps : String) : Oper := { dst := some 16, op := .load 3 (.tmp 15), type := 3, pos := ps, after := #[{ on := 3, ground := .data }], guard := none }
def rck4O5 (ps : String) : Oper := { dst := some 17, op := .call { callee := .value (.func 71), args := #[.tmp 16], argTypes := #[3] }, type := 4, pos := ps, after := #[{ on := 4, ground := .data }], guard := none }
def rck4O6 (ps : String) : Oper := { dst := some 18, op := .unOp .not 4 (.tmp 17), type := 4, pos := ps, after := #[{ on := 5, ground := .data }], guard := none }
def rck4O7 (ps : String) : Oper := { dst := some 19, op := .move (.tmp 18), type := 4, pos := ps, after := #[{ on := 6, ground := .data }, { on := 5, ground := .chain }], guard := none }
def rck4O8 (ps : String) : Oper := { dst := some 20, op := .move (.tmp 0), type := 24, pos := ps, after := #[{ on := 7, ground := .guard }], guard := some (7, false) }
def rck4O9 (ps : String) : Oper := { dst := some 21, op := .move (.tmp 5), type := 3, pos := ps, after := #[{ on := 7, ground := .guard }], guard := some (7, false) }
def rck4O10 (ps : String) : Oper := { dst := some 22, op := .indexAddr 24 (.tmp 20) (.tmp 21), type := 0, pos := ps, after := #[{ on := 8, ground := .data }, { on := 9, ground := .data }, { on := 7, ground := .guard }], guard := some (7, false) }
def rck4O11 (ps : String) : Oper := { dst := some 23, op := .fieldAddr 61 (.tmp 22) 1, type := 0, pos := ps, after := #[{ on := 10, ground := .data }, { on := 7, ground := .guard }], guard := some (7, false) }
def rck4O12 (ps : String) : Oper := { dst := some 24, op := .load 3 (.tmp 23), type := 3, pos := ps, after := #[{ on := 11, ground := .data }, { on := 7, ground := .guard }], guard := some (7, false) }
def rck4O13 (ps : String) : Oper := { dst := some 25, op := .call { callee := .value (.func 72), args := #[.tmp 24], argTypes := #[3] }, type := 4, pos := ps, after := #[{ on := 12, ground := .data }, { on := 7, ground := .chain }, { on := 7, ground := .guard }], guard := some (7, false) }
def rck4O14 (ps : String) : Oper := { dst := some 26, op := .unOp .not 4 (.tmp 25), type := 4, pos := ps, after := #[{ on := 13, ground := .data }, { on := 7, ground := .guard }], guard := some (7, false) }
def rck4O15 (ps : String) : Oper := { dst := some 27, op := .pick (.tmp 19) (.const (.bool true)) (.tmp 26), type := 4, pos := ps, after := #[{ on := 7, ground := .data }, { on := 14, ground := .data }], guard := none }
def rck4O16 (ps : String) : Oper := { dst := some 28, op := .move (.tmp 27), type := 4, pos := ps, after := #[{ on := 15, ground := .data }, { on := 13, ground := .chain }], guard := none }
def rck4O17 (ps : String) : Oper := { dst := some 29, op := .move (.tmp 5), type := 3, pos := ps, after := #[{ on := 16, ground := .guard }], guard := some (16, false) }
def rck4O18 (ps : String) : Oper := { dst := some 30, op := .binOp .gtr 3 (.tmp 29) (.const (.int .i64 0)) 3, type := 4, pos := ps, after := #[{ on := 17, ground := .data }, { on := 16, ground := .guard }], guard := some (16, false) }
def rck4O19 (ps : String) : Oper := { dst := some 31, op := .move (.tmp 30), type := 4, pos := ps, after := #[{ on := 18, ground := .data }, { on := 16, ground := .chain }, { on := 16, ground := .guard }], guard := some (16, false) }
def rck4O20 (ps : String) : Oper := { dst := some 32, op := .move (.tmp 0), type := 24, pos := ps, after := #[{ on := 19, ground := .guard }], guard := some (19, true) }
def rck4O21 (ps : String) : Oper := { dst := some 33, op := .move (.tmp 5), type := 3, pos := ps, after := #[{ on := 19, ground := .guard }], guard := some (19, true) }
def rck4O22 (ps : String) : Oper := { dst := some 34, op := .indexAddr 24 (.tmp 32) (.tmp 33), type := 0, pos := ps, after := #[{ on := 20, ground := .data }, { on := 21, ground := .data }, { on := 19, ground := .guard }], guard := some (19, true) }
def rck4O23 (ps : String) : Oper := { dst := some 35, op := .fieldAddr 61 (.tmp 34) 0, type := 0, pos := ps, after := #[{ on := 22, ground := .data }, { on := 19, ground := .guard }], guard := some (19, true) }
def rck4O24 (ps : String) : Oper := { dst := some 36, op := .load 3 (.tmp 35), type := 3, pos := ps, after := #[{ on := 23, ground := .data }, { on := 19, ground := .guard }], guard := some (19, true) }
def rck4O25 (ps : String) : Oper := { dst := some 37, op := .move (.tmp 0), type := 24, pos := ps, after := #[{ on := 19, ground := .guard }], guard := some (19, true) }
def rck4O26 (ps : String) : Oper := { dst := some 38, op := .move (.tmp 5), type := 3, pos := ps, after := #[{ on := 19, ground := .guard }], guard := some (19, true) }
def rck4O27 (ps : String) : Oper := { dst := some 39, op := .binOp .sub 3 (.tmp 38) (.const (.int .i64 1)) 3, type := 3, pos := ps, after := #[{ on := 26, ground := .data }, { on := 19, ground := .guard }], guard := some (19, true) }
def rck4O28 (ps : String) : Oper := { dst := some 40, op := .indexAddr 24 (.tmp 37) (.tmp 39), type := 0, pos := ps, after := #[{ on := 25, ground := .data }, { on := 27, ground := .data }, { on := 19, ground := .guard }], guard := some (19, true) }
def rck4O29 (ps : String) : Oper := { dst := some 41, op := .fieldAddr 61 (.tmp 40) 0, type := 0, pos := ps, after := #[{ on := 28, ground := .data }, { on := 19, ground := .guard }], guard := some (19, true) }
def rck4O30 (ps : String) : Oper := { dst := some 42, op := .load 3 (.tmp 41), type := 3, pos := ps, after := #[{ on := 29, ground := .data }, { on := 19, ground := .guard }], guard := some (19, true) }
def rck4O31 (ps : String) : Oper := { dst := some 43, op := .binOp .leq 3 (.tmp 36) (.tmp 42) 3, type := 4, pos := ps, after := #[{ on := 24, ground := .data }, { on := 30, ground := .data }, { on := 19, ground := .guard }], guard := some (19, true) }
def rck4O32 (ps : String) : Oper := { dst := some 44, op := .pick (.tmp 31) (.tmp 43) (.const (.bool false)), type := 4, pos := ps, after := #[{ on := 19, ground := .data }, { on := 31, ground := .data }, { on := 16, ground := .guard }], guard := some (16, false) }
def rck4O33 (ps : String) : Oper := { dst := some 45, op := .pick (.tmp 28) (.const (.bool true)) (.tmp 44), type := 4, pos := ps, after := #[{ on := 16, ground := .data }, { on := 32, ground := .data }], guard := none }
def rck4 (ps : String) : Array Oper := #[rck4O0 ps, rck4O1 ps, rck4O2 ps, rck4O3 ps, rck4O4 ps, rck4O5 ps, rck4O6 ps, rck4O7 ps, rck4O8 ps, rck4O9 ps, rck4O10 ps, rck4O11 ps, rck4O12 ps, rck4O13 ps, rck4O14 ps, rck4O15 ps, rck4O16 ps, rck4O17 ps, rck4O18 ps, rck4O19 ps, rck4O20 ps, rck4O21 ps, rck4O22 ps, rck4O23 ps, rck4O24 ps, rck4O25 ps, rck4O26 ps, rck4O27 ps, rck4O28 ps, rck4O29 ps, rck4O30 ps, rck4O31 ps, rck4O32 ps, rck4O33 ps]
theorem rck4_0 (ps : String) : (rck4 ps)[0]? = some (rck4O0 ps) := rfl
theorem rck4_1 (ps : String) : (rck4 ps)[1]? = some (rck4O1 ps) := rfl
theorem rck4_2 (ps : String) : (rck4 ps)[2]? = some (rck4O2 ps) := rfl
theorem rck4_3 (ps : String) : (rck4 ps)[3]? = some (rck4O3 ps) := rfl
theorem rck4_4 (ps : String) : (rck4 ps)[4]? = some (rck4O4 ps) := rfl
theorem rck4_5 (ps : String) : (rck4 ps)[5]? = some (rck4O5 ps) := rfl
theorem rck4_6 (ps : String) : (rck4 ps)[6]? = some (rck4O6 ps) := rfl
theorem rck4_7 (ps : String) : (rck4 ps)[7]? = some (rck4O7 ps) := rfl
theorem rck4_8 (ps : String) : (rck4 ps)[8]? = some (rck4O8 ps) := rfl
theorem rck4_9 (ps : String) : (rck4 ps)[9]? = some (rck4O9 ps) := rfl
theorem rck4_10 (ps : String) : (rck4 ps)[10]? = some (rck4O10 ps) := rfl
theorem rck4_11 (ps : String) : (rck4 ps)[11]? = some (rck4O11 ps) := rfl
theorem rck4_12 (ps : String) : (rck4 ps)[12]? = some (rck4O12 ps) := rfl
theorem rck4_13 (ps : String) : (rck4 ps)[13]? = some (rck4O13 ps) := rfl
theorem rck4_14 (ps : String) : (rck4 ps)[14]? = some (rck4O14 ps) := rfl
theorem rck4_15 (ps : String) : (rck4 ps)[15]? = some (rck4O15 ps) := rfl
theorem rck4_16 (ps : String) : (rck4 ps)[16]? = some (rck4O16 ps) := rfl
theorem rck4_17 (ps : String) : (rck4 ps)[17]? = some (rck4O17 ps) := rfl
theorem rck4_18 (ps : String) : (rck4 ps)[18]? = some (rck4O18 ps) := rfl
theorem rck4_19 (ps : String) : (rck4 ps)[19]? = some (rck4O19 ps) := rfl
theorem rck4_20 (ps : String) : (rck4 ps)[20]? = some (rck4O20 ps) := rfl
theorem rck4_21 (ps : String) : (rck4 ps)[21]? = some (rck4O21 ps) := rfl
theorem rck4_22 (ps : String) : (rck4 ps)[22]? = some (rck4O22 ps) := rfl
theorem rck4_23 (ps : String) : (rck4 ps)[23]? = some (rck4O23 ps) := rfl
theorem rck4_24 (ps : String) : (rck4 ps)[24]? = some (rck4O24 ps) := rfl
theorem rck4_25 (ps : String) : (rck4 ps)[25]? = some (rck4O25 ps) := rfl
theorem rck4_26 (ps : String) : (rck4 ps)[26]? = some (rck4O26 ps) := rfl
theorem rck4_27 (ps : String) : (rck4 ps)[27]? = some (rck4O27 ps) := rfl
theorem rck4_28 (ps : String) : (rck4 ps)[28]? = some (rck4O28 ps) := rfl
theorem rck4_29 (ps : String) : (rck4 ps)[29]? = some (rck4O29 ps) := rfl
theorem rck4_30 (ps : String) : (rck4 ps)[30]? = some (rck4O30 ps) := rfl
theorem rck4_31 (ps : String) : (rck4 ps)[31]? = some (rck4O31 ps) := rfl
theorem rck4_32 (ps : String) : (rck4 ps)[32]? = some (rck4O32 ps) := rfl
theorem rck4_33 (ps : String) : (rck4 ps)[33]? = some (rck4O33 ps) := rfl
def rck4D : Nat → Option Tmp
  | 0 => some 12
  | 1 => some 13
  | 2 => some 14
  | 3 => some 15
  | 4 => some 16
  | 5 => some 17
  | 6 => some 18
  | 7 => some 19
  | 8 => some 20
  | 9 => some 21
  | 10 => some 22
  | 11 => some 23
  | 12 => some 24
  | 13 => some 25
  | 14 => some 26
  | 15 => some 27
  | 16 => some 28
  | 17 => some 29
  | 18 => some 30
  | 19 => some 31
  | 20 => some 32
  | 21 => some 33
  | 22 => some 34
  | 23 => some 35
  | 24 => some 36
  | 25 => some 37
  | 26 => some 38
  | 27 => some 39
  | 28 => some 40
  | 29 => some 41
  | 30 => some 42
  | 31 => some 43
  | 32 => some 44
  | 33 => some 45
  | _ => none
def rck4T (b o i j n c : Nat) (x p : Tm) (b101 b102 d6 d14 d15 b18 b31 d32 d33 : Bool) : Nat → Value
  | 0 => .slice (some ⟨b, o, none⟩) n c
  | 1 => .int .i64 (i : Int)
  | 2 => .pointer (some ⟨b, o + i * 2, none⟩)
  | 3 => .pointer (some ⟨b, o + i * 2, none⟩)
  | 4 => .int .i64 x.1
  | 5 => .bool b101
  | 6 => .bool d6
  | 7 => .bool d6
  | 8 => cond (!d6) (.slice (some ⟨b, o, none⟩) n c) undef
  | 9 => cond (!d6) (.int .i64 (i : Int)) undef
  | 10 => cond (!d6) (.pointer (some ⟨b, o + i * 2, none⟩)) undef
  | 11 => cond (!d6) (.pointer (some ⟨b, o + i * 2 + 1, none⟩)) undef
  | 12 => cond (!d6) (.int .i64 x.2) undef
  | 13 => cond (!d6) (.bool b102) undef
  | 14 => cond (!d6) (.bool d14) undef
  | 15 => .bool d15
  | 16 => .bool d15
  | 17 => cond (!d15) (.int .i64 (i : Int)) undef
  | 18 => cond (!d15) (.bool b18) undef
  | 19 => cond (!d15) (.bool b18) undef
  | 20 => cond (!d15 && b18) (.slice (some ⟨b, o, none⟩) n c) undef
  | 21 => cond (!d15 && b18) (.int .i64 (i : Int)) undef
  | 22 => cond (!d15 && b18) (.pointer (some ⟨b, o + i * 2, none⟩)) undef
  | 23 => cond (!d15 && b18) (.pointer (some ⟨b, o + i * 2, none⟩)) undef
  | 24 => cond (!d15 && b18) (.int .i64 x.1) undef
  | 25 => cond (!d15 && b18) (.slice (some ⟨b, o, none⟩) n c) undef
  | 26 => cond (!d15 && b18) (.int .i64 (i : Int)) undef
  | 27 => cond (!d15 && b18) (.int .i64 (j : Int)) undef
  | 28 => cond (!d15 && b18) (.pointer (some ⟨b, o + j * 2, none⟩)) undef
  | 29 => cond (!d15 && b18) (.pointer (some ⟨b, o + j * 2, none⟩)) undef
  | 30 => cond (!d15 && b18) (.int .i64 p.1) undef
  | 31 => cond (!d15 && b18) (.bool b31) undef
  | 32 => cond (!d15) (.bool d32) undef
  | 33 => .bool d33
  | _ => undef
set_option maxRecDepth 100000 in
set_option maxHeartbeats 4000000 in
theorem rck4_reg {ps : String} {Q : Exit → Act → World → Prop} {a0 : Act} {W0 : World} (sz : a0.tmps.size = 83) (b o i j n c : Nat) (x p : Tm)
    (e0 : a0.eval (.tmp 0) = .slice (some ⟨b, o, none⟩) n c) (e5 : a0.eval (.tmp 5) = .int .i64 (i : Int))
    {b101 b102 : Bool} (hb101 : timeB x.1 = b101) (hb102 : valB x.2 = b102) (hx0 : W0.cell? ⟨b, o + i * 2, none⟩ = some (.int .i64 x.1)) (hx1 : W0.cell? ⟨b, o + i * 2 + 1, none⟩ = some (.int .i64 x.2)) (hin : (i : Int) < (n : Int)) (hj : decide (0 < i) = true → IntKind.i64.wrap ((i : Int) - 1) = (j : Int) ∧ (j : Int) < (n : Int) ∧ W0.cell? ⟨b, o + j * 2, none⟩ = some (.int .i64 p.1) ∧ W0.cell? ⟨b, o + j * 2 + 1, none⟩ = some (.int .i64 p.2))
    {d6 d14 d15 b18 b31 d32 d33 : Bool} (hd6 : (!b101) = d6)
    (hd14 : (!b102) = d14)
    (hd15 : (d6 || d14) = d15)
    (hb18 : decide (0 < i) = b18)
    (hb31 : decide (x.1 ≤ p.1) = b31)
    (hd32 : (b18 && b31) = d32)
    (hd33 : (d15 || d32) = d33)
    (hfin : ∀ (T : Nat → Value) w, T 33 = .bool d33 → (fun w => w.heap = W0.heap ∧ Below W0.heap.size W0 w) w → Q .normal ((((((((((((((((((((((((((((((((((a0.put (some 12) (T 0)).put (some 13) (T 1)).put (some 14) (T 2)).put (some 15) (T 3)).put (some 16) (T 4)).put (some 17) (T 5)).put (some 18) (T 6)).put (some 19) (T 7)).put (some 20) (T 8)).put (some 21) (T 9)).put (some 22) (T 10)).put (some 23) (T 11)).put (some 24) (T 12)).put (some 25) (T 13)).put (some 26) (T 14)).put (some 27) (T 15)).put (some 28) (T 16)).put (some 29) (T 17)).put (some 30) (T 18)).put (some 31) (T 19)).put (some 32) (T 20)).put (some 33) (T 21)).put (some 34) (T 22)).put (some 35) (T 23)).put (some 36) (T 24)).put (some 37) (T 25)).put (some 38) (T 26)).put (some 39) (T 27)).put (some 40) (T 28)).put (some 41) (T 29)).put (some 42) (T 30)).put (some 43) (T 31)).put (some 44) (T 32)).put (some 45) (T 33)) w) :
    (Code.region 4 (rck4 ps) true).wp Tryd.prog Q a0 W0 := by
  refine wp_region_det (by kernel_rfl) 34 rfl rck4D ?_ (by decide) (rck4T b o i j n c x p b101 b102 d6 d14 d15 b18 b31 d32 d33) (fun w => w.heap = W0.heap ∧ Below W0.heap.size W0 w) ⟨rfl, ⟨rfl, rfl, rfl, Nat.le_refl _, fun _ _ => rfl⟩⟩ ?_ (by rfl) (fun w hSw => hfin (rck4T b o i j n c x p b101 b102 d6 d14 d15 b18 b31 d32 d33) w rfl hSw)
  · intro jq t hj ht
    have : ∀ j, j < 34 → (rck4D j).all (· < 83) = true := by decide
    have := this jq hj
    rw [ht] at this
    rw [sz]
    simpa using this
  · intro iq o ho a w hSw hs hel K hK
    have hin : iq < 34 := (Array.getElem?_eq_some_iff.1 ho).1
    match iq, hin, ho with
    | 0, _, ho =>
    obtain rfl := Option.some.inj (ho.symm.trans (rck4_0 ps))
    have u0 : a.eval (.tmp 0) = .slice (some ⟨b, o, none⟩) n c := (hel 0 (by decide)).trans e0
    skip
    exact op_valW (rck4_0 ps) rfl (by unfold rck4O0 execOp; simp only [u0, rck4T, cond_true, cond_false, Bool.not_true, Bool.not_false, Bool.and_true, Bool.true_and, Bool.and_false, Bool.false_and]; first | (go_simp; done) | (go_simp; with_reducible rfl)) (hK w hSw)
    | 1, _, ho =>
    obtain rfl := Option.some.inj (ho.symm.trans (rck4_1 ps))
    have u5 : a.eval (.tmp 5) = .int .i64 (i : Int) := (hel 5 (by decide)).trans e5
    skip
    exact op_valW (rck4_1 ps) rfl (by unfold rck4O1 execOp; simp only [u5, rck4T, cond_true, cond_false, Bool.not_true, Bool.not_false, Bool.and_true, Bool.true_and, Bool.and_false, Bool.false_and]; first | (go_simp; done) | (go_simp; with_reducible rfl)) (hK w hSw)
    | 2, _, ho =>
    obtain rfl := Option.some.inj (ho.symm.trans (rck4_2 ps))
    have s0 := hs 0 12 (by rfl) rfl
    have s1 := hs 1 13 (by rfl) rfl
    (try simp only [rck4T, cond_true, cond_false, Bool.not_true, Bool.not_false, Bool.and_true, Bool.true_and, Bool.and_false, Bool.false_and] at s0 s1)
    exact op_valW (rck4_2 ps) rfl (by unfold rck4O2 execOp; simp only [s0, s1, rck4T, cond_true, cond_false, Bool.not_true, Bool.not_false, Bool.and_true, Bool.true_and, Bool.and_false, Bool.false_and]; first | (go_simp; done) | (go_simp; with_reducible rfl)) (hK w hSw)
    | 3, _, ho =>
    obtain rfl := Option.some.inj (ho.symm.trans (rck4_3 ps))
    have s2 := hs 2 14 (by rfl) rfl
    (try simp only [rck4T, cond_true, cond_false, Bool.not_true, Bool.not_false, Bool.and_true, Bool.true_and, Bool.and_false, Bool.false_and] at s2)
    exact op_valW (rck4_3 ps) rfl (by unfold rck4O3 execOp; simp only [s2, rck4T, cond_true, cond_false, Bool.not_true, Bool.not_false, Bool.and_true, Bool.true_and, Bool.and_false, Bool.false_and]; first | (go_simp; done) | (go_simp; with_reducible rfl)) (hK w hSw)
    | 4, _, ho =>
    obtain rfl := Option.some.inj (ho.symm.trans (rck4_4 ps))
    have s3 := hs 3 15 (by rfl) rfl
    have hcl := cell_heap hSw.1 hx0
    (try simp only [rck4T, cond_true, cond_false, Bool.not_true, Bool.not_false, Bool.and_true, Bool.true_and, Bool.and_false, Bool.false_and] at s3)
    exact op_valW (rck4_4 ps) rfl (by unfold rck4O4 execOp; simp only [s3, rck4T, cond_true, cond_false, Bool.not_true, Bool.not_false, Bool.and_true, Bool.true_and, Bool.and_false, Bool.false_and]; first | (go_simp; done) | (go_simp; with_reducible rfl)) (hK w hSw)
    | 5, _, ho =>
    obtain rfl := Option.some.inj (ho.symm.trans (rck4_5 ps))
    have s4 := hs 4 16 (by rfl) rfl
    (try simp only [rck4T, cond_true, cond_false, Bool.not_true, Bool.not_false, Bool.and_true, Bool.true_and, Bool.and_false, Bool.false_and] at s4)
    exact op_enterW (rck4_5 ps) rfl (f := 71) (args := #[.int .i64 x.1]) (by rw [run_call rfl enter71]; simp only [List.map_toArray, List.map_cons, List.map_nil, s4]; try rfl) ((refTime_is x.1 w b101 hb101).mono (fun e w' hh => ⟨_, hh.1, hK w' ⟨by rw [hh.2]; exact hSw.1, by rw [hh.2]; exact hSw.2⟩⟩))
    | 6, _, ho =>
    obtain rfl := Option.some.inj (ho.symm.trans (rck4_6 ps))
    have s5 := hs 5 17 (by rfl) rfl
    (try simp only [rck4T, cond_true, cond_false, Bool.not_true, Bool.not_false, Bool.and_true, Bool.true_and, Bool.and_false, Bool.false_and] at s5)
    subst hd6
    exact op_valW (rck4_6 ps) rfl (by unfold rck4O6 execOp; simp only [s5, rck4T, cond_true, cond_false, Bool.not_true, Bool.not_false, Bool.and_true, Bool.true_and, Bool.and_false, Bool.false_and]; first | (go_simp; done) | (go_simp; with_reducible rfl)) (hK w hSw)
    | 7, _, ho =>
    obtain rfl := Option.some.inj (ho.symm.trans (rck4_7 ps))
    have s6 := hs 6 18 (by rfl) rfl
    (try simp only [rck4T, cond_true, cond_false, Bool.not_true, Bool.not_false, Bool.and_true, Bool.true_and, Bool.and_false, Bool.false_and] at s6)
    exact op_valW (rck4_7 ps) rfl (by unfold rck4O7 execOp; simp only [s6, rck4T, cond_true, cond_false, Bool.not_true, Bool.not_false, Bool.and_true, Bool.true_and, Bool.and_false, Bool.false_and]; first | (go_simp; done) | (go_simp; with_reducible rfl)) (hK w hSw)
    | 8, _, ho =>
    obtain rfl := Option.some.inj (ho.symm.trans (rck4_8 ps))
    have s7 := hs 7 19 (by rfl) rfl
    have u0 : a.eval (.tmp 0) = .slice (some ⟨b, o, none⟩) n c := (hel 0 (by decide)).trans e0
    cases d6
    all_goals ((try simp only [rck4T, cond_true, cond_false, Bool.not_true, Bool.not_false, Bool.and_true, Bool.true_and, Bool.and_false, Bool.false_and] at s7); first | (exact op_skip (rck4_8 ps) (by rw [wanted_of rfl (rck4_7 ps) rfl s7]; rfl) (hK w hSw)) | (exact op_valW (rck4_8 ps) (by rw [wanted_of rfl (rck4_7 ps) rfl s7]; rfl) (by unfold rck4O8 execOp; simp only [u0, rck4T, cond_true, cond_false, Bool.not_true, Bool.not_false, Bool.and_true, Bool.true_and, Bool.and_false, Bool.false_and]; first | (go_simp; done) | (go_simp; with_reducible rfl)) (hK w hSw)))
    | 9, _, ho =>
    obtain rfl := Option.some.inj (ho.symm.trans (rck4_9 ps))
    have s7 := hs 7 19 (by rfl) rfl
    have u5 : a.eval (.tmp 5) = .int .i64 (i : Int) := (hel 5 (by decide)).trans e5
    cases d6
    all_goals ((try simp only [rck4T, cond_true, cond_false, Bool.not_true, Bool.not_false, Bool.and_true, Bool.true_and, Bool.and_false, Bool.false_and] at s7); first | (exact op_skip (rck4_9 ps) (by rw [wanted_of rfl (rck4_7 ps) rfl s7]; rfl) (hK w hSw)) | (exact op_valW (rck4_9 ps) (by rw [wanted_of rfl (rck4_7 ps) rfl s7]; rfl) (by unfold rck4O9 execOp; simp only [u5, rck4T, cond_true, cond_false, Bool.not_true, Bool.not_false, Bool.and_true, Bool.true_and, Bool.and_false, Bool.false_and]; first | (go_simp; done) | (go_simp; with_reducible rfl)) (hK w hSw)))
    | 10, _, ho =>
    obtain rfl := Option.some.inj (ho.symm.trans (rck4_10 ps))
    have s8 := hs 8 20 (by rfl) rfl
    have s9 := hs 9 21 (by rfl) rfl
    have s7 := hs 7 19 (by rfl) rfl
    cases d6
    all_goals ((try simp only [rck4T, cond_true, cond_false, Bool.not_true, Bool.not_false, Bool.and_true, Bool.true_and, Bool.and_false, Bool.false_and] at s8 s9 s7); first | (exact op_skip (rck4_10 ps) (by rw [wanted_of rfl (rck4_7 ps) rfl s7]; rfl) (hK w hSw)) | (exact op_valW (rck4_10 ps) (by rw [wanted_of rfl (rck4_7 ps) rfl s7]; rfl) (by unfold rck4O10 execOp; simp only [s8, s9, rck4T, cond_true, cond_false, Bool.not_true, Bool.not_false, Bool.and_true, Bool.true_and, Bool.and_false, Bool.false_and]; first | (go_simp; done) | (go_simp; with_reducible rfl)) (hK w hSw)))
    | 11, _, ho =>
    obtain rfl := Option.some.inj (ho.symm.trans (rck4_11 ps))
    have s10 := hs 10 22 (by rfl) rfl
    have s7 := hs 7 19 (by rfl) rfl
    cases d6
    all_goals ((try simp only [rck4T, cond_true, cond_false, Bool.not_true, Bool.not_false, Bool.and_true, Bool.true_and, Bool.and_false, Bool.false_and] at s10 s7); first | (exact op_skip (rck4_11 ps) (by rw [wanted_of rfl (rck4_7 ps) rfl s7]; rfl) (hK w hSw)) | (exact op_valW (rck4_11 ps) (by rw [wanted_of rfl (rck4_7 ps) rfl s7]; rfl) (by unfold rck4O11 execOp; simp only [s10, rck4T, cond_true, cond_false, Bool.not_true, Bool.not_false, Bool.and_true, Bool.true_and, Bool.and_false, Bool.false_and]; first | (go_simp; done) | (go_simp; with_reducible rfl)) (hK w hSw)))
    | 12, _, ho =>
    obtain rfl := Option.some.inj (ho.symm.trans (rck4_12 ps))
    have s11 := hs 11 23 (by rfl) rfl
    have s7 := hs 7 19 (by rfl) rfl
    have hcl := cell_heap hSw.1 hx1
    cases d6
    all_goals ((try simp only [rck4T, cond_true, cond_false, Bool.not_true, Bool.not_false, Bool.and_true, Bool.true_and, Bool.and_false, Bool.false_and] at s11 s7); first | (exact op_skip (rck4_12 ps) (by rw [wanted_of rfl (rck4_7 ps) rfl s7]; rfl) (hK w hSw)) | (exact op_valW (rck4_12 ps) (by rw [wanted_of rfl (rck4_7 ps) rfl s7]; rfl) (by unfold rck4O12 execOp; simp only [s11, rck4T, cond_true, cond_false, Bool.not_true, Bool.not_false, Bool.and_true, Bool.true_and, Bool.and_false, Bool.false_and]; first | (go_simp; done) | (go_simp; with_reducible rfl)) (hK w hSw)))
    | 13, _, ho =>
    obtain rfl := Option.some.inj (ho.symm.trans (rck4_13 ps))
    have s12 := hs 12 24 (by rfl) rfl
    have s7 := hs 7 19 (by rfl) rfl
    cases d6
    all_goals ((try simp only [rck4T, cond_true, cond_false, Bool.not_true, Bool.not_false, Bool.and_true, Bool.true_and, Bool.and_false, Bool.false_and] at s12 s7); first | (exact op_skip (rck4_13 ps) (by rw [wanted_of rfl (rck4_7 ps) rfl s7]; rfl) (hK w hSw)) | (exact op_enterW (rck4_13 ps) (by rw [wanted_of rfl (rck4_7 ps) rfl s7]; rfl) (f := 72) (args := #[.int .i64 x.2]) (by rw [run_call rfl enter72]; simp only [List.map_toArray, List.map_cons, List.map_nil, s12]; try rfl) ((refValue_is x.2 w b102 hb102).mono (fun e w' hh => ⟨_, hh.1, hK w' ⟨by rw [hh.2]; exact hSw.1, by rw [hh.2]; exact hSw.2⟩⟩))))
    | 14, _, ho =>
    obtain rfl := Option.some.inj (ho.symm.trans (rck4_14 ps))
    have s13 := hs 13 25 (by rfl) rfl
    have s7 := hs 7 19 (by rfl) rfl
    cases d6
    all_goals ((try simp only [rck4T, cond_true, cond_false, Bool.not_true, Bool.not_false, Bool.and_true, Bool.true_and, Bool.and_false, Bool.false_and] at s13 s7); subst hd14; first | (exact op_skip (rck4_14 ps) (by rw [wanted_of rfl (rck4_7 ps) rfl s7]; rfl) (hK w hSw)) | (exact op_valW (rck4_14 ps) (by rw [wanted_of rfl (rck4_7 ps) rfl s7]; rfl) (by unfold rck4O14 execOp; simp only [s13, rck4T, cond_true, cond_false, Bool.not_true, Bool.not_false, Bool.and_true, Bool.true_and, Bool.and_false, Bool.false_and]; first | (go_simp; done) | (go_simp; with_reducible rfl)) (hK w hSw)))
    | 15, _, ho =>
    obtain rfl := Option.some.inj (ho.symm.trans (rck4_15 ps))
    have s7 := hs 7 19 (by rfl) rfl
    have s14 := hs 14 26 (by rfl) rfl
    cases d6
    all_goals ((try simp only [rck4T, cond_true, cond_false, Bool.not_true, Bool.not_false, Bool.and_true, Bool.true_and, Bool.and_false, Bool.false_and] at s7 s14); (try (simp only [Bool.true_or, Bool.false_or, Bool.true_and, Bool.false_and] at hd15; subst hd15)); exact op_valW (rck4_15 ps) rfl (by unfold rck4O15 execOp; simp only [s7, s14, rck4T, cond_true, cond_false, Bool.not_true, Bool.not_false, Bool.and_true, Bool.true_and, Bool.and_false, Bool.false_and]; first | (go_simp; done) | (go_simp; with_reducible rfl)) (hK w hSw))
    | 16, _, ho =>
    obtain rfl := Option.some.inj (ho.symm.trans (rck4_16 ps))
    have s15 := hs 15 27 (by rfl) rfl
    (try simp only [rck4T, cond_true, cond_false, Bool.not_true, Bool.not_false, Bool.and_true, Bool.true_and, Bool.and_false, Bool.false_and] at s15)
    exact op_valW (rck4_16 ps) rfl (by unfold rck4O16 execOp; simp only [s15, rck4T, cond_true, cond_false, Bool.not_true, Bool.not_false, Bool.and_true, Bool.true_and, Bool.and_false, Bool.false_and]; first | (go_simp; done) | (go_simp; with_reducible rfl)) (hK w hSw)
    | 17, _, ho =>
    obtain rfl := Option.some.inj (ho.symm.trans (rck4_17 ps))
    have s16 := hs 16 28 (by rfl) rfl
    have u5 : a.eval (.tmp 5) = .int .i64 (i : Int) := (hel 5 (by decide)).trans e5
    cases d15
    all_goals ((try simp only [rck4T, cond_true, cond_false, Bool.not_true, Bool.not_false, Bool.and_true, Bool.true_and, Bool.and_false, Bool.false_and] at s16); first | (exact op_skip (rck4_17 ps) (by rw [wanted_of rfl (rck4_16 ps) rfl s16]; rfl) (hK w hSw)) | (exact op_valW (rck4_17 ps) (by rw [wanted_of rfl (rck4_16 ps) rfl s16]; rfl) (by unfold rck4O17 execOp; simp only [u5, rck4T, cond_true, cond_false, Bool.not_true, Bool.not_false, Bool.and_true, Bool.true_and, Bool.and_false, Bool.false_and]; first | (go_simp; done) | (go_simp; with_reducible rfl)) (hK w hSw)))
    | 18, _, ho =>
    obtain rfl := Option.some.inj (ho.symm.trans (rck4_18 ps))
    have s17 := hs 17 29 (by rfl) rfl
    have s16 := hs 16 28 (by rfl) rfl
    cases d15
    all_goals ((try simp only [rck4T, cond_true, cond_false, Bool.not_true, Bool.not_false, Bool.and_true, Bool.true_and, Bool.and_false, Bool.false_and] at s17 s16); first | (exact op_skip (rck4_18 ps) (by rw [wanted_of rfl (rck4_16 ps) rfl s16]; rfl) (hK w hSw)) | (exact op_valW (rck4_18 ps) (by rw [wanted_of rfl (rck4_16 ps) rfl s16]; rfl) (by unfold rck4O18 execOp; simp only [s17, rck4T, cond_true, cond_false, Bool.not_true, Bool.not_false, Bool.and_true, Bool.true_and, Bool.and_false, Bool.false_and]; first | (go_simp; done) | (go_simp; with_reducible rfl)) (hK w hSw)))
    | 19, _, ho =>
    obtain rfl := Option.some.inj (ho.symm.trans (rck4_19 ps))
    have s18 := hs 18 30 (by rfl) rfl
    have s16 := hs 16 28 (by rfl) rfl
    cases d15
    all_goals ((try simp only [rck4T, cond_true, cond_false, Bool.not_true, Bool.not_false, Bool.and_true, Bool.true_and, Bool.and_false, Bool.false_and] at s18 s16); first | (exact op_skip (rck4_19 ps) (by rw [wanted_of rfl (rck4_16 ps) rfl s16]; rfl) (hK w hSw)) | (exact op_valW (rck4_19 ps) (by rw [wanted_of rfl (rck4_16 ps) rfl s16]; rfl) (by unfold rck4O19 execOp; simp only [s18, rck4T, cond_true, cond_false, Bool.not_true, Bool.not_false, Bool.and_true, Bool.true_and, Bool.and_false, Bool.false_and]; first | (go_simp; done) | (go_simp; with_reducible rfl)) (hK w hSw)))
    | 20, _, ho =>
    obtain rfl := Option.some.inj (ho.symm.trans (rck4_20 ps))
    have s19 := hs 19 31 (by rfl) rfl
    have u0 : a.eval (.tmp 0) = .slice (some ⟨b, o, none⟩) n c := (hel 0 (by decide)).trans e0
    cases d15 <;> cases b18
    all_goals ((try simp only [rck4T, cond_true, cond_false, Bool.not_true, Bool.not_false, Bool.and_true, Bool.true_and, Bool.and_false, Bool.false_and] at s19); first | (exact op_skip (rck4_20 ps) (by rw [wanted_of rfl (rck4_19 ps) rfl s19]; rfl) (hK w hSw)) | (exact op_valW (rck4_20 ps) (by rw [wanted_of rfl (rck4_19 ps) rfl s19]; rfl) (by unfold rck4O20 execOp; simp only [u0, rck4T, cond_true, cond_false, Bool.not_true, Bool.not_false, Bool.and_true, Bool.true_and, Bool.and_false, Bool.false_and]; first | (go_simp; done) | (go_simp; with_reducible rfl)) (hK w hSw)))
    | 21, _, ho =>
    obtain rfl := Option.some.inj (ho.symm.trans (rck4_21 ps))
    have s19 := hs 19 31 (by rfl) rfl
    have u5 : a.eval (.tmp 5) = .int .i64 (i : Int) := (hel 5 (by decide)).trans e5
    cases d15 <;> cases b18
    all_goals ((try simp only [rck4T, cond_true, cond_false, Bool.not_true, Bool.not_false, Bool.and_true, Bool.true_and, Bool.and_false, Bool.false_and] at s19); first | (exact op_skip (rck4_21 ps) (by rw [wanted_of rfl (rck4_19 ps) rfl s19]; rfl) (hK w hSw)) | (exact op_valW (rck4_21 ps) (by rw [wanted_of rfl (rck4_19 ps) rfl s19]; rfl) (by unfold rck4O21 execOp; simp only [u5, rck4T, cond_true, cond_false, Bool.not_true, Bool.not_false, Bool.and_true, Bool.true_and, Bool.and_false, Bool.false_and]; first | (go_simp; done) | (go_simp; with_reducible rfl)) (hK w hSw)))
    | 22, _, ho =>
    obtain rfl := Option.some.inj (ho.symm.trans (rck4_22 ps))
    have s20 := hs 20 32 (by rfl) rfl
    have s21 := hs 21 33 (by rfl) rfl
    have s19 := hs 19 31 (by rfl) rfl
    cases d15 <;> cases b18
    all_goals ((try simp only [rck4T, cond_true, cond_false, Bool.not_true, Bool.not_false, Bool.and_true, Bool.true_and, Bool.and_false, Bool.false_and] at s20 s21 s19); first | (exact op_skip (rck4_22 ps) (by rw [wanted_of rfl (rck4_19 ps) rfl s19]; rfl) (hK w hSw)) | (exact op_valW (rck4_22 ps) (by rw [wanted_of rfl (rck4_19 ps) rfl s19]; rfl) (by unfold rck4O22 execOp; simp only [s20, s21, rck4T, cond_true, cond_false, Bool.not_true, Bool.not_false, Bool.and_true, Bool.true_and, Bool.and_false, Bool.false_and]; first | (go_simp; done) | (go_simp; with_reducible rfl)) (hK w hSw)))
    | 23, _, ho =>
    obtain rfl := Option.some.inj (ho.symm.trans (rck4_23 ps))
    have s22 := hs 22 34 (by rfl) rfl
    have s19 := hs 19 31 (by rfl) rfl
    cases d15 <;> cases b18
    all_goals ((try simp only [rck4T, cond_true, cond_false, Bool.not_true, Bool.not_false, Bool.and_true, Bool.true_and, Bool.and_false, Bool.false_and] at s22 s19); first | (exact op_skip (rck4_23 ps) (by rw [wanted_of rfl (rck4_19 ps) rfl s19]; rfl) (hK w hSw)) | (exact op_valW (rck4_23 ps) (by rw [wanted_of rfl (rck4_19 ps) rfl s19]; rfl) (by unfold rck4O23 execOp; simp only [s22, rck4T, cond_true, cond_false, Bool.not_true, Bool.not_false, Bool.and_true, Bool.true_and, Bool.and_false, Bool.false_and]; first | (go_simp; done) | (go_simp; with_reducible rfl)) (hK w hSw)))
    | 24, _, ho =>
    obtain rfl := Option.some.inj (ho.symm.trans (rck4_24 ps))
    have s23 := hs 23 35 (by rfl) rfl
    have s19 := hs 19 31 (by rfl) rfl
    have hcl := cell_heap hSw.1 hx0
    cases d15 <;> cases b18
    all_goals ((try simp only [rck4T, cond_true, cond_false, Bool.not_true, Bool.not_false, Bool.and_true, Bool.true_and, Bool.and_false, Bool.false_and] at s23 s19); first | (exact op_skip (rck4_24 ps) (by rw [wanted_of rfl (rck4_19 ps) rfl s19]; rfl) (hK w hSw)) | (exact op_valW (rck4_24 ps) (by rw [wanted_of rfl (rck4_19 ps) rfl s19]; rfl) (by unfold rck4O24 execOp; simp only [s23, rck4T, cond_true, cond_false, Bool.not_true, Bool.not_false, Bool.and_true, Bool.true_and, Bool.and_false, Bool.false_and]; first | (go_simp; done) | (go_simp; with_reducible rfl)) (hK w hSw)))
    | 25, _, ho =>
    obtain rfl := Option.some.inj (ho.symm.trans (rck4_25 ps))
    have s19 := hs 19 31 (by rfl) rfl
    have u0 : a.eval (.tmp 0) = .slice (some ⟨b, o, none⟩) n c := (hel 0 (by decide)).trans e0
    cases d15 <;> cases b18
    all_goals ((try simp only [rck4T, cond_true, cond_false, Bool.not_true, Bool.not_false, Bool.and_true, Bool.true_and, Bool.and_false, Bool.false_and] at s19); first | (exact op_skip (rck4_25 ps) (by rw [wanted_of rfl (rck4_19 ps) rfl s19]; rfl) (hK w hSw)) | (exact op_valW (rck4_25 ps) (by rw [wanted_of rfl (rck4_19 ps) rfl s19]; rfl) (by unfold rck4O25 execOp; simp only [u0, rck4T, cond_true, cond_false, Bool.not_true, Bool.not_false, Bool.and_true, Bool.true_and, Bool.and_false, Bool.false_and]; first | (go_simp; done) | (go_simp; with_reducible rfl)) (hK w hSw)))
    | 26, _, ho =>
    obtain rfl := Option.some.inj (ho.symm.trans (rck4_26 ps))
    have s19 := hs 19 31 (by rfl) rfl
    have u5 : a.eval (.tmp 5) = .int .i64 (i : Int) := (hel 5 (by decide)).trans e5
    cases d15 <;> cases b18
    all_goals ((try simp only [rck4T, cond_true, cond_false, Bool.not_true, Bool.not_false, Bool.and_true, Bool.true_and, Bool.and_false, Bool.false_and] at s19); first | (exact op_skip (rck4_26 ps) (by rw [wanted_of rfl (rck4_19 ps) rfl s19]; rfl) (hK w hSw)) | (exact op_valW (rck4_26 ps) (by rw [wanted_of rfl (rck4_19 ps) rfl s19]; rfl) (by unfold rck4O26 execOp; simp only [u5, rck4T, cond_true, cond_false, Bool.not_true, Bool.not_false, Bool.and_true, Bool.true_and, Bool.and_false, Bool.false_and]; first | (go_simp; done) | (go_simp; with_reducible rfl)) (hK w hSw)))
    | 27, _, ho =>
    obtain rfl := Option.some.inj (ho.symm.trans (rck4_27 ps))
    have s26 := hs 26 38 (by rfl) rfl
    have s19 := hs 19 31 (by rfl) rfl
    cases d15 <;> cases b18
    all_goals ((try simp only [rck4T, cond_true, cond_false, Bool.not_true, Bool.not_false, Bool.and_true, Bool.true_and, Bool.and_false, Bool.false_and] at s26 s19); first | (exact op_skip (rck4_27 ps) (by rw [wanted_of rfl (rck4_19 ps) rfl s19]; rfl) (hK w hSw)) | (have hcl := (hj hb18).1; exact op_valW (rck4_27 ps) (by rw [wanted_of rfl (rck4_19 ps) rfl s19]; rfl) (by unfold rck4O27 execOp; simp only [s26, rck4T, cond_true, cond_false, Bool.not_true, Bool.not_false, Bool.and_true, Bool.true_and, Bool.and_false, Bool.false_and]; first | (go_simp; done) | (go_simp; with_reducible rfl)) (hK w hSw)))
    | 28, _, ho =>
    obtain rfl := Option.some.inj (ho.symm.trans (rck4_28 ps))
    have s25 := hs 25 37 (by rfl) rfl
    have s27 := hs 27 39 (by rfl) rfl
    have s19 := hs 19 31 (by rfl) rfl
    cases d15 <;> cases b18
    all_goals ((try simp only [rck4T, cond_true, cond_false, Bool.not_true, Bool.not_false, Bool.and_true, Bool.true_and, Bool.and_false, Bool.false_and] at s25 s27 s19); first | (exact op_skip (rck4_28 ps) (by rw [wanted_of rfl (rck4_19 ps) rfl s19]; rfl) (hK w hSw)) | (have hcl := (hj hb18).2.1; exact op_valW (rck4_28 ps) (by rw [wanted_of rfl (rck4_19 ps) rfl s19]; rfl) (by unfold rck4O28 execOp; simp only [s25, s27, rck4T, cond_true, cond_false, Bool.not_true, Bool.not_false, Bool.and_true, Bool.true_and, Bool.and_false, Bool.false_and]; first | (go_simp; done) | (go_simp; with_reducible rfl)) (hK w hSw)))
    | 29, _, ho =>
    obtain rfl := Option.some.inj (ho.symm.trans (rck4_29 ps))
    have s28 := hs 28 40 (by rfl) rfl
    have s19 := hs 19 31 (by rfl) rfl
    cases d15 <;> cases b18
    all_goals ((try simp only [rck4T, cond_true, cond_false, Bool.not_true, Bool.not_false, Bool.and_true, Bool.true_and, Bool.and_false, Bool.false_and] at s28 s19); first | (exact op_skip (rck4_29 ps) (by rw [wanted_of rfl (rck4_19 ps) rfl s19]; rfl) (hK w hSw)) | (exact op_valW (rck4_29 ps) (by rw [wanted_of rfl (rck4_19 ps) rfl s19]; rfl) (by unfold rck4O29 execOp; simp only [s28, rck4T, cond_true, cond_false, Bool.not_true, Bool.not_false, Bool.and_true, Bool.true_and, Bool.and_false, Bool.false_and]; first | (go_simp; done) | (go_simp; with_reducible rfl)) (hK w hSw)))
    | 30, _, ho =>
    obtain rfl := Option.some.inj (ho.symm.trans (rck4_30 ps))
    have s29 := hs 29 41 (by rfl) rfl
    have s19 := hs 19 31 (by rfl) rfl
    cases d15 <;> cases b18
    all_goals ((try simp only [rck4T, cond_true, cond_false, Bool.not_true, Bool.not_false, Bool.and_true, Bool.true_and, Bool.and_false, Bool.false_and] at s29 s19); first | (exact op_skip (rck4_30 ps) (by rw [wanted_of rfl (rck4_19 ps) rfl s19]; rfl) (hK w hSw)) | (have hcl := cell_heap hSw.1 (hj hb18).2.2.1; exact op_valW (rck4_30 ps) (by rw [wanted_of rfl (rck4_19 ps) rfl s19]; rfl) (by unfold rck4O30 execOp; simp only [s29, rck4T, cond_true, cond_false, Bool.not_true, Bool.not_false, Bool.and_true, Bool.true_and, Bool.and_false, Bool.false_and]; first | (go_simp; done) | (go_simp; with_reducible rfl)) (hK w hSw)))
    | 31, _, ho =>
    obtain rfl := Option.some.inj (ho.symm.trans (rck4_31 ps))
    have s24 := hs 24 36 (by rfl) rfl
    have s30 := hs 30 42 (by rfl) rfl
    have s19 := hs 19 31 (by rfl) rfl
    cases d15 <;> cases b18
    all_goals ((try simp only [rck4T, cond_true, cond_false, Bool.not_true, Bool.not_false, Bool.and_true, Bool.true_and, Bool.and_false, Bool.false_and] at s24 s30 s19); first | (exact op_skip (rck4_31 ps) (by rw [wanted_of rfl (rck4_19 ps) rfl s19]; rfl) (hK w hSw)) | (exact op_valW (rck4_31 ps) (by rw [wanted_of rfl (rck4_19 ps) rfl s19]; rfl) (by unfold rck4O31 execOp; simp only [s24, s30, rck4T, cond_true, cond_false, Bool.not_true, Bool.not_false, Bool.and_true, Bool.true_and, Bool.and_false, Bool.false_and]; first | (go_simp; done) | (go_simp; with_reducible rfl)) (hK w hSw)))
    | 32, _, ho =>
    obtain rfl := Option.some.inj (ho.symm.trans (rck4_32 ps))
    have s19 := hs 19 31 (by rfl) rfl
    have s31 := hs 31 43 (by rfl) rfl
    have s16 := hs 16 28 (by rfl) rfl
    cases d15 <;> cases b18
    all_goals ((try simp only [rck4T, cond_true, cond_false, Bool.not_true, Bool.not_false, Bool.and_true, Bool.true_and, Bool.and_false, Bool.false_and] at s19 s31 s16); (try (simp only [Bool.true_or, Bool.false_or, Bool.true_and, Bool.false_and] at hd32; subst hd32)); first | (exact op_skip (rck4_32 ps) (by rw [wanted_of rfl (rck4_16 ps) rfl s16]; rfl) (hK w hSw)) | (exact op_valW (rck4_32 ps) (by rw [wanted_of rfl (rck4_16 ps) rfl s16]; rfl) (by unfold rck4O32 execOp; simp only [s19, s31, rck4T, cond_true, cond_false, Bool.not_true, Bool.not_false, Bool.and_true, Bool.true_and, Bool.and_false, Bool.false_and]; first | (go_simp; done) | (go_simp; with_reducible rfl)) (hK w hSw)))
    | 33, _, ho =>
    obtain rfl := Option.some.inj (ho.symm.trans (rck4_33 ps))
    have s16 := hs 16 28 (by rfl) rfl
    have s32 := hs 32 44 (by rfl) rfl
    cases d15
    all_goals ((try simp only [rck4T, cond_true, cond_false, Bool.not_true, Bool.not_false, Bool.and_true, Bool.true_and, Bool.and_false, Bool.false_and] at s16 s32); (try (simp only [Bool.true_or, Bool.false_or, Bool.true_and, Bool.false_and] at hd33; subst hd33)); exact op_valW (rck4_33 ps) rfl (by unfold rck4O33 execOp; simp only [s16, s32, rck4T, cond_true, cond_false, Bool.not_true, Bool.not_false, Bool.and_true, Bool.true_and, Bool.and_false, Bool.false_and]; first | (go_simp; done) | (go_simp; with_reducible rfl)) (hK w hSw))
    | iq + 34, hin, _ => exact absurd hin (by omega)
def rck6O0 (ps : String) : Oper := { dst := some 46, op := .move (.tmp 5), type := 3, pos := ps, after := #[], guard := none }
def rck6O1 (ps : String) : Oper := { dst := some 47, op := .binOp .gtr 3 (.tmp 46) (.const (.int .i64 0)) 3, type := 4, pos := ps, after := #[{ on := 0, ground := .data }], guard := none }
def rck6O2 (ps : String) : Oper := { dst := some 48, op := .move (.tmp 47), type := 4, pos := ps, after := #[{ on := 1, ground := .data }], guard := none }
def rck6O3 (ps : String) : Oper := { dst := some 49, op := .move (.tmp 1), type := 4, pos := ps, after := #[{ on := 2, ground := .guard }], guard := some (2, true) }
def rck6O4 (ps : String) : Oper := { dst := some 50, op := .move (.tmp 49), type := 4, pos := ps, after := #[{ on := 3, ground := .data }, { on := 2, ground := .chain }, { on := 2, ground := .guard }], guard := some (2, true) }
def rck6O5 (ps : String) : Oper := { dst := some 51, op := .move (.tmp 0), type := 24, pos := ps, after := #[{ on := 4, ground := .guard }], guard := some (4, true) }
def rck6O6 (ps : String) : Oper := { dst := some 52, op := .move (.tmp 5), type := 3, pos := ps, after := #[{ on := 4, ground := .guard }], guard := some (4, true) }
def rck6O7 (ps : String) : Oper := { dst := some 53, op := .indexAddr 24 (.tmp 51) (.tmp 52), type := 0, pos := ps, after := #[{ on := 5, ground := .data }, { on := 6, ground := .data }, { on := 4, ground := .guard }], guard := some (4, true) }
def rck6O8 (ps : String) : Oper := { dst := some 54, op := .fieldAddr 61 (.tmp 53) 1, type := 0, pos := ps, after := #[{ on := 7, ground := .data }, { on := 4, ground := .guard }], guard := some (4, true) }
def rck6O9 (ps : String) : Oper := { dst := some 55, op := .load 3 (.tmp 54), type := 3, pos := ps, after := #[{ on := 8, ground := .data }, { on := 4, ground := .guard }], guard := some (4, true) }
def rck6O10 (ps : String) : Oper := { dst := some 56, op := .move (.tmp 0), type := 24, pos := ps, after := #[{ on := 4, ground := .guard }], guard := some (4, true) }
def rck6O11 (ps : String) : Oper := { dst := some 57, op := .move (.tmp 5), type := 3, pos := ps, after := #[{ on := 4, ground := .guard }], guard := some (4, true) }
def rck6O12 (ps : String) : Oper := { dst := some 58, op := .binOp .sub 3 (.tmp 57) (.const (.int .i64 1)) 3, type := 3, pos := ps, after := #[{ on := 11, ground := .data }, { on := 4, ground := .guard }], guard := some (4, true) }
def rck6O13 (ps : String) : Oper := { dst := some 59, op := .indexAddr 24 (.tmp 56) (.tmp 58), type := 0, pos := ps, after := #[{ on := 10, ground := .data }, { on := 12, ground := .data }, { on := 4, ground := .guard }], guard := some (4, true) }
def rck6O14 (ps : String) : Oper := { dst := some 60, op := .fieldAddr 61 (.tmp 59) 1, type := 0, pos := ps, after := #[{ on := 13, ground := .data }, { on := 4, ground := .guard }], guard := some (4, true) }
def rck6O15 (ps : String) : Oper := { dst := some 61, op := .load 3 (.tmp 60), type := 3, pos := ps, after := #[{ on := 14, ground := .data }, { on := 4, ground := .guard }], guard := some (4, true) }
def rck6O16 (ps : String) : Oper := { dst := some 62, op := .binOp .geq 3 (.tmp 55) (.tmp 61) 3, type := 4, pos := ps, after := #[{ on := 9, ground := .data }, { on := 15, ground := .data }, { on := 4, ground := .guard }], guard := some (4, true) }
def rck6O17 (ps : String) : Oper := { dst := some 63, op := .pick (.tmp 50) (.tmp 62) (.const (.bool false)), type := 4, pos := ps, after := #[{ on := 4, ground := .data }, { on := 16, ground := .data }, { on := 2, ground := .guard }], guard := some (2, true) }
def rck6O18 (ps : String) : Oper := { dst := some 64, op := .move (.tmp 63), type := 4, pos := ps, after := #[{ on := 17, ground := .data }, { on := 4, ground := .chain }, { on := 2, ground := .guard }], guard := some (2, true) }
def rck6O19 (ps : String) : Oper := { dst := some 65, op := .move (.tmp 1), type := 4, pos := ps, after := #[{ on := 18, ground := .guard }], guard := some (18, false) }
def rck6O20 (ps : String) : Oper := { dst := some 66, op := .unOp .not 4 (.tmp 65), type := 4, pos := ps, after := #[{ on := 19, ground := .data }, { on := 18, ground := .guard }], guard := some (18, false) }
def rck6O21 (ps : String) : Oper := { dst := some 67, op := .move (.tmp 66), type := 4, pos := ps, after := #[{ on := 20, ground := .data }, { on := 18, ground := .chain }, { on := 18, ground := .guard }], guard := some (18, false) }
def rck6O22 (ps : String) : Oper := { dst := some 68, op := .move (.tmp 0), type := 24, pos := ps, after := #[{ on := 21, ground := .guard }], guard := some (21, true) }
def rck6O23 (ps : String) : Oper := { dst := some 69, op := .move (.tmp 5), type := 3, pos := ps, after := #[{ on := 21, ground := .guard }], guard := some (21, true) }
def rck6O24 (ps : String) : Oper := { dst := some 70, op := .indexAddr 24 (.tmp 68) (.tmp 69), type := 0, pos := ps, after := #[{ on := 22, ground := .data }, { on := 23, ground := .data }, { on := 21, ground := .guard }], guard := some (21, true) }
def rck6O25 (ps : String) : Oper := { dst := some 71, op := .fieldAddr 61 (.tmp 70) 1, type := 0, pos := ps, after := #[{ on := 24, ground := .data }, { on := 21, ground := .guard }], guard := some (21, true) }
def rck6O26 (ps : String) : Oper := { dst := some 72, op := .load 3 (.tmp 71), type := 3, pos := ps, after := #[{ on := 25, ground := .data }, { on := 21, ground := .guard }], guard := some (21, true) }
def rck6O27 (ps : String) : Oper := { dst := some 73, op := .move (.tmp 0), type := 24, pos := ps, after := #[{ on := 21, ground := .guard }], guard := some (21, true) }
def rck6O28 (ps : String) : Oper := { dst := some 74, op := .move (.tmp 5), type := 3, pos := ps, after := #[{ on := 21, ground := .guard }], guard := some (21, true) }
def rck6O29 (ps : String) : Oper := { dst := some 75, op := .binOp .sub 3 (.tmp 74) (.const (.int .i64 1)) 3, type := 3, pos := ps, after := #[{ on := 28, ground := .data }, { on := 21, ground := .guard }], guard := some (21, true) }
def rck6O30 (ps : String) : Oper := { dst := some 76, op := .indexAddr 24 (.tmp 73) (.tmp 75), type := 0, pos := ps, after := #[{ on := 27, ground := .data }, { on := 29, ground := .data }, { on := 21, ground := .guard }], guard := some (21, true) }
def rck6O31 (ps : String) : Oper := { dst := some 77, op := .fieldAddr 61 (.tmp 76) 1, type := 0, pos := ps, after := #[{ on := 30, ground := .data }, { on := 21, ground := .guard }], guard := some (21, true) }
def rck6O32 (ps : String) : Oper := { dst := some 78, op := .load 3 (.tmp 77), type := 3, pos := ps, after := #[{ on := 31, ground := .data }, { on := 21, ground := .guard }], guard := some (21, true) }
def rck6O33 (ps : String) : Oper := { dst := some 79, op := .binOp .leq 3 (.tmp 72) (.tmp 78) 3, type := 4, pos := ps, after := #[{ on := 26, ground := .data }, { on := 32, ground := .data }, { on := 21, ground := .guard }], guard := some (21, true) }
def rck6O34 (ps : String) : Oper := { dst := some 80, op := .pick (.tmp 67) (.tmp 79) (.const (.bool false)), type := 4, pos := ps, after := #[{ on := 21, ground := .data }, { on := 33, ground := .data }, { on := 18, ground := .guard }], guard := some (18, false) }
def rck6O35 (ps : String) : Oper := { dst := some 81, op := .pick (.tmp 64) (.const (.bool true)) (.tmp 80), type := 4, pos := ps, after := #[{ on := 18, ground := .data }, { on := 34, ground := .data }, { on := 2, ground := .guard }], guard := some (2, true) }
def rck6O36 (ps : String) : Oper := { dst := some 82, op := .pick (.tmp 48) (.tmp 81) (.const (.bool false)), type := 4, pos := ps, after := #[{ on := 2, ground := .data }, { on := 35, ground := .data }], guard := none }
def rck6 (ps : String) : Array Oper := #[rck6O0 ps, rck6O1 ps, rck6O2 ps, rck6O3 ps, rck6O4 ps, rck6O5 ps, rck6O6 ps, rck6O7 ps, rck6O8 ps, rck6O9 ps, rck6O10 ps, rck6O11 ps, rck6O12 ps, rck6O13 ps, rck6O14 ps, rck6O15 ps, rck6O16 ps, rck6O17 ps, rck6O18 ps, rck6O19 ps, rck6O20 ps, rck6O21 ps, rck6O22 ps, rck6O23 ps, rck6O24 ps, rck6O25 ps, rck6O26 ps, rck6O27 ps, rck6O28 ps, rck6O29 ps, rck6O30 ps, rck6O31 ps, rck6O32 ps, rck6O33 ps, rck6O34 ps, rck6O35 ps, rck6O36 ps]
theorem rck6_0 (ps : String) : (rck6 ps)[0]? = some (rck6O0 ps) := rfl
theorem rck6_1 (ps : String) : (rck6 ps)[1]? = some (rck6O1 ps) := rfl
theorem rck6_2 (ps : String) : (rck6 ps)[2]? = some (rck6O2 ps) := rfl
theorem rck6_3 (ps : String) : (rck6 ps)[3]? = some (rck6O3 ps) := rfl
theorem rck6_4 (ps : String) : (rck6 ps)[4]? = some (rck6O4 ps) := rfl
theorem rck6_5 (ps : String) : (rck6 ps)[5]? = some (rck6O5 ps) := rfl
theorem rck6_6 (ps : String) : (rck6 ps)[6]? = some (rck6O6 ps) := rfl
theorem rck6_7 (ps : String) : (rck6 ps)[7]? = some (rck6O7 ps) := rfl
theorem rck6_8 (ps : String) : (rck6 ps)[8]? = some (rck6O8 ps) := rfl
theorem rck6_9 (ps : String) : (rck6 ps)[9]? = some (rck6O9 ps) := rfl
theorem rck6_10 (ps : String) : (rck6 ps)[10]? = some (rck6O10 ps) := rfl
theorem rck6_11 (ps : String) : (rck6 ps)[11]? = some (rck6O11 ps) := rfl
theorem rck6_12 (ps : String) : (rck6 ps)[12]? = some (rck6O12 ps) := rfl
theorem rck6_13 (ps : String) : (rck6 ps)[13]? = some (rck6O13 ps) := rfl
theorem rck6_14 (ps : String) : (rck6 ps)[14]? = some (rck6O14 ps) := rfl
theorem rck6_15 (ps : String) : (rck6 ps)[15]? = some (rck6O15 ps) := rfl
theorem rck6_16 (ps : String) : (rck6 ps)[16]? = some (rck6O16 ps) := rfl
theorem rck6_17 (ps : String) : (rck6 ps)[17]? = some (rck6O17 ps) := rfl
theorem rck6_18 (ps : String) : (rck6 ps)[18]? = some (rck6O18 ps) := rfl
theorem rck6_19 (ps : String) : (rck6 ps)[19]? = some (rck6O19 ps) := rfl
theorem rck6_20 (ps : String) : (rck6 ps)[20]? = some (rck6O20 ps) := rfl
theorem rck6_21 (ps : String) : (rck6 ps)[21]? = some (rck6O21 ps) := rfl
theorem rck6_22 (ps : String) : (rck6 ps)[22]? = some (rck6O22 ps) := rfl
theorem rck6_23 (ps : String) : (rck6 ps)[23]? = some (rck6O23 ps) := rfl
theorem rck6_24 (ps : String) : (rck6 ps)[24]? = some (rck6O24 ps) := rfl
theorem rck6_25 (ps : String) : (rck6 ps)[25]? = some (rck6O25 ps) := rfl
theorem rck6_26 (ps : String) : (rck6 ps)[26]? = some (rck6O26 ps) := rfl
theorem rck6_27 (ps : String) : (rck6 ps)[27]? = some (rck6O27 ps) := rfl
theorem rck6_28 (ps : String) : (rck6 ps)[28]? = some (rck6O28 ps) := rfl
theorem rck6_29 (ps : String) : (rck6 ps)[29]? = some (rck6O29 ps) := rfl
theorem rck6_30 (ps : String) : (rck6 ps)[30]? = some (rck6O30 ps) := rfl
theorem rck6_31 (ps : String) : (rck6 ps)[31]? = some (rck6O31 ps) := rfl
theorem rck6_32 (ps : String) : (rck6 ps)[32]? = some (rck6O32 ps) := rfl
theorem rck6_33 (ps : String) : (rck6 ps)[33]? = some (rck6O33 ps) := rfl
theorem rck6_34 (ps : String) : (rck6 ps)[34]? = some (rck6O34 ps) := rfl
theorem rck6_35 (ps : String) : (rck6 ps)[35]? = some (rck6O35 ps) := rfl
theorem rck6_36 (ps : String) : (rck6 ps)[36]? = some (rck6O36 ps) := rfl
def rck6D : Nat → Option Tmp
  | 0 => some 46
  | 1 => some 47
  | 2 => some 48
  | 3 => some 49
  | 4 => some 50
  | 5 => some 51
  | 6 => some 52
  | 7 => some 53
  | 8 => some 54
  | 9 => some 55
  | 10 => some 56
  | 11 => some 57
  | 12 => some 58
  | 13 => some 59
  | 14 => some 60
  | 15 => some 61
  | 16 => some 62
  | 17 => some 63
  | 18 => some 64
  | 19 => some 65
  | 20 => some 66
  | 21 => some 67
  | 22 => some 68
  | 23 => some 69
  | 24 => some 70
  | 25 => some 71
  | 26 => some 72
  | 27 => some 73
  | 28 => some 74
  | 29 => some 75
  | 30 => some 76
  | 31 => some 77
  | 32 => some 78
  | 33 => some 79
  | 34 => some 80
  | 35 => some 81
  | 36 => some 82
  | _ => none
def rck6T (b o i j n c : Nat) (x p : Tm) (b103 : Bool) (b1 b16 d17 d20 b33 d34 d35 d36 : Bool) : Nat → Value
  | 0 => .int .i64 (i : Int)
  | 1 => .bool b1
  | 2 => .bool b1
  | 3 => cond (b1) (.bool b103) undef
  | 4 => cond (b1) (.bool b103) undef
  | 5 => cond (b1 && b103) (.slice (some ⟨b, o, none⟩) n c) undef
  | 6 => cond (b1 && b103) (.int .i64 (i : Int)) undef
  | 7 => cond (b1 && b103) (.pointer (some ⟨b, o + i * 2, none⟩)) undef
  | 8 => cond (b1 && b103) (.pointer (some ⟨b, o + i * 2 + 1, none⟩)) undef
  | 9 => cond (b1 && b103) (.int .i64 x.2) undef
  | 10 => cond (b1 && b103) (.slice (some ⟨b, o, none⟩) n c) undef
  | 11 => cond (b1 && b103) (.int .i64 (i : Int)) undef
  | 12 => cond (b1 && b103) (.int .i64 (j : Int)) undef
  | 13 => cond (b1 && b103) (.pointer (some ⟨b, o + j * 2, none⟩)) undef
  | 14 => cond (b1 && b103) (.pointer (some ⟨b, o + j * 2 + 1, none⟩)) undef
  | 15 => cond (b1 && b103) (.int .i64 p.2) undef
  | 16 => cond (b1 && b103) (.bool b16) undef
  | 17 => cond (b1) (.bool d17) undef
  | 18 => cond (b1) (.bool d17) undef
  | 19 => cond (b1 && !d17) (.bool b103) undef
  | 20 => cond (b1 && !d17) (.bool d20) undef
  | 21 => cond (b1 && !d17) (.bool d20) undef
  | 22 => cond (b1 && !d17 && d20) (.slice (some ⟨b, o, none⟩) n c) undef
  | 23 => cond (b1 && !d17 && d20) (.int .i64 (i : Int)) undef
  | 24 => cond (b1 && !d17 && d20) (.pointer (some ⟨b, o + i * 2, none⟩)) undef
  | 25 => cond (b1 && !d17 && d20) (.pointer (some ⟨b, o + i * 2 + 1, none⟩)) undef
  | 26 => cond (b1 && !d17 && d20) (.int .i64 x.2) undef
  | 27 => cond (b1 && !d17 && d20) (.slice (some ⟨b, o, none⟩) n c) undef
  | 28 => cond (b1 && !d17 && d20) (.int .i64 (i : Int)) undef
  | 29 => cond (b1 && !d17 && d20) (.int .i64 (j : Int)) undef
  | 30 => cond (b1 && !d17 && d20) (.pointer (some ⟨b, o + j * 2, none⟩)) undef
  | 31 => cond (b1 && !d17 && d20) (.pointer (some ⟨b, o + j * 2 + 1, none⟩)) undef
  | 32 => cond (b1 && !d17 && d20) (.int .i64 p.2) undef
  | 33 => cond (b1 && !d17 && d20) (.bool b33) undef
  | 34 => cond (b1 && !d17) (.bool d34) undef
  | 35 => cond (b1) (.bool d35) undef
  | 36 => .bool d36
  | _ => undef
set_option maxRecDepth 100000 in
set_option maxHeartbeats 4000000 in
theorem rck6_reg {ps : String} {Q : Exit → Act → World → Prop} {a0 : Act} {W0 : World} (sz : a0.tmps.size = 83) (b o i j n c : Nat) (x p : Tm) (b103 : Bool)
    (e0 : a0.eval (.tmp 0) = .slice (some ⟨b, o, none⟩) n c) (e5 : a0.eval (.tmp 5) = .int .i64 (i : Int)) (e1 : a0.eval (.tmp 1) = .bool b103)
    (hx0 : W0.cell? ⟨b, o + i * 2, none⟩ = some (.int .i64 x.1)) (hx1 : W0.cell? ⟨b, o + i * 2 + 1, none⟩ = some (.int .i64 x.2)) (hin : (i : Int) < (n : Int)) (hj : decide (0 < i) = true → IntKind.i64.wrap ((i : Int) - 1) = (j : Int) ∧ (j : Int) < (n : Int) ∧ W0.cell? ⟨b, o + j * 2, none⟩ = some (.int .i64 p.1) ∧ W0.cell? ⟨b, o + j * 2 + 1, none⟩ = some (.int .i64 p.2))
    {b1 b16 d17 d20 b33 d34 d35 d36 : Bool} (hb1 : decide (0 < i) = b1)
    (hb16 : decide (p.2 ≤ x.2) = b16)
    (hd17 : (b103 && b16) = d17)
    (hd20 : (!b103) = d20)
    (hb33 : decide (x.2 ≤ p.2) = b33)
    (hd34 : (d20 && b33) = d34)
    (hd35 : (d17 || d34) = d35)
    (hd36 : (b1 && d35) = d36)
    (hfin : ∀ (T : Nat → Value) w, T 36 = .bool d36 → (fun w => w.heap = W0.heap ∧ Below W0.heap.size W0 w) w → Q .normal (((((((((((((((((((((((((((((((((((((a0.put (some 46) (T 0)).put (some 47) (T 1)).put (some 48) (T 2)).put (some 49) (T 3)).put (some 50) (T 4)).put (some 51) (T 5)).put (some 52) (T 6)).put (some 53) (T 7)).put (some 54) (T 8)).put (some 55) (T 9)).put (some 56) (T 10)).put (some 57) (T 11)).put (some 58) (T 12)).put (some 59) (T 13)).put (some 60) (T 14)).put (some 61) (T 15)).put (some 62) (T 16)).put (some 63) (T 17)).put (some 64) (T 18)).put (some 65) (T 19)).put (some 66) (T 20)).put (some 67) (T 21)).put (some 68) (T 22)).put (some 69) (T 23)).put (some 70) (T 24)).put (some 71) (T 25)).put (some 72) (T 26)).put (some 73) (T 27)).put (some 74) (T 28)).put (some 75) (T 29)).put (some 76) (T 30)).put (some 77) (T 31)).put (some 78) (T 32)).put (some 79) (T 33)).put (some 80) (T 34)).put (some 81) (T 35)).put (some 82) (T 36)) w) :
    (Code.region 6 (rck6 ps) true).wp Tryd.prog Q a0 W0 := by
  refine wp_region_det (by kernel_rfl) 37 rfl rck6D ?_ (by decide) (rck6T b o i j n c x p b103 b1 b16 d17 d20 b33 d34 d35 d36) (fun w => w.heap = W0.heap ∧ Below W0.heap.size W0 w) ⟨rfl, ⟨rfl, rfl, rfl, Nat.le_refl _, fun _ _ => rfl⟩⟩ ?_ (by rfl) (fun w hSw => hfin (rck6T b o i j n c x p b103 b1 b16 d17 d20 b33 d34 d35 d36) w rfl hSw)
  · intro jq t hj ht
    have : ∀ j, j < 37 → (rck6D j).all (· < 83) = true := by decide
    have := this jq hj
    rw [ht] at this
    rw [sz]
    simpa using this
  · intro iq o ho a w hSw hs hel K hK
    have hin : iq < 37 := (Array.getElem?_eq_some_iff.1 ho).1
    match iq, hin, ho with
    | 0, _, ho =>
    obtain rfl := Option.some.inj (ho.symm.trans (rck6_0 ps))
    have u5 : a.eval (.tmp 5) = .int .i64 (i : Int) := (hel 5 (by decide)).trans e5
    skip
    exact op_valW (rck6_0 ps) rfl (by unfold rck6O0 execOp; simp only [u5, rck6T, cond_true, cond_false, Bool.not_true, Bool.not_false, Bool.and_true, Bool.true_and, Bool.and_false, Bool.false_and]; first | (go_simp; done) | (go_simp; with_reducible rfl)) (hK w hSw)
    | 1, _, ho =>
    obtain rfl := Option.some.inj (ho.symm.trans (rck6_1 ps))
    have s0 := hs 0 46 (by rfl) rfl
    (try simp only [rck6T, cond_true, cond_false, Bool.not_true, Bool.not_false, Bool.and_true, Bool.true_and, Bool.and_false, Bool.false_and] at s0)
    exact op_valW (rck6_1 ps) rfl (by unfold rck6O1 execOp; simp only [s0, rck6T, cond_true, cond_false, Bool.not_true, Bool.not_false, Bool.and_true, Bool.true_and, Bool.and_false, Bool.false_and]; first | (go_simp; done) | (go_simp; with_reducible rfl)) (hK w hSw)
    | 2, _, ho =>
    obtain rfl := Option.some.inj (ho.symm.trans (rck6_2 ps))
    have s1 := hs 1 47 (by rfl) rfl
    (try simp only [rck6T, cond_true, cond_false, Bool.not_true, Bool.not_false, Bool.and_true, Bool.true_and, Bool.and_false, Bool.false_and] at s1)
    exact op_valW (rck6_2 ps) rfl (by unfold rck6O2 execOp; simp only [s1, rck6T, cond_true, cond_false, Bool.not_true, Bool.not_false, Bool.and_true, Bool.true_and, Bool.and_false, Bool.false_and]; first | (go_simp; done) | (go_simp; with_reducible rfl)) (hK w hSw)
    | 3, _, ho =>
    obtain rfl := Option.some.inj (ho.symm.trans (rck6_3 ps))
    have s2 := hs 2 48 (by rfl) rfl
    have u1 : a.eval (.tmp 1) = .bool b103 := (hel 1 (by decide)).trans e1
    cases b1
    all_goals ((try simp only [rck6T, cond_true, cond_false, Bool.not_true, Bool.not_false, Bool.and_true, Bool.true_and, Bool.and_false, Bool.false_and] at s2); first | (exact op_skip (rck6_3 ps) (by rw [wanted_of rfl (rck6_2 ps) rfl s2]; rfl) (hK w hSw)) | (exact op_valW (rck6_3 ps) (by rw [wanted_of rfl (rck6_2 ps) rfl s2]; rfl) (by unfold rck6O3 execOp; simp only [u1, rck6T, cond_true, cond_false, Bool.not_true, Bool.not_false, Bool.and_true, Bool.true_and, Bool.and_false, Bool.false_and]; first | (go_simp; done) | (go_simp; with_reducible rfl)) (hK w hSw)))
    | 4, _, ho =>
    obtain rfl := Option.some.inj (ho.symm.trans (rck6_4 ps))
    have s3 := hs 3 49 (by rfl) rfl
    have s2 := hs 2 48 (by rfl) rfl
    cases b1
    all_goals ((try simp only [rck6T, cond_true, cond_false, Bool.not_true, Bool.not_false, Bool.and_true, Bool.true_and, Bool.and_false, Bool.false_and] at s3 s2); first | (exact op_skip (rck6_4 ps) (by rw [wanted_of rfl (rck6_2 ps) rfl s2]; rfl) (hK w hSw)) | (exact op_valW (rck6_4 ps) (by rw [wanted_of rfl (rck6_2 ps) rfl s2]; rfl) (by unfold rck6O4 execOp; simp only [s3, rck6T, cond_true, cond_false, Bool.not_true, Bool.not_false, Bool.and_true, Bool.true_and, Bool.and_false, Bool.false_and]; first | (go_simp; done) | (go_simp; with_reducible rfl)) (hK w hSw)))
    | 5, _, ho =>
    obtain rfl := Option.some.inj (ho.symm.trans (rck6_5 ps))
    have s4 := hs 4 50 (by rfl) rfl
    have u0 : a.eval (.tmp 0) = .slice (some ⟨b, o, none⟩) n c := (hel 0 (by decide)).trans e0
    cases b1 <;> cases b103
    all_goals ((try simp only [rck6T, cond_true, cond_false, Bool.not_true, Bool.not_false, Bool.and_true, Bool.true_and, Bool.and_false, Bool.false_and] at s4); first | (exact op_skip (rck6_5 ps) (by rw [wanted_of rfl (rck6_4 ps) rfl s4]; rfl) (hK w hSw)) | (exact op_valW (rck6_5 ps) (by rw [wanted_of rfl (rck6_4 ps) rfl s4]; rfl) (by unfold rck6O5 execOp; simp only [u0, rck6T, cond_true, cond_false, Bool.not_true, Bool.not_false, Bool.and_true, Bool.true_and, Bool.and_false, Bool.false_and]; first | (go_simp; done) | (go_simp; with_reducible rfl)) (hK w hSw)))
    | 6, _, ho =>
    obtain rfl := Option.some.inj (ho.symm.trans (rck6_6 ps))
    have s4 := hs 4 50 (by rfl) rfl
    have u5 : a.eval (.tmp 5) = .int .i64 (i : Int) := (hel 5 (by decide)).trans e5
    cases b1 <;> cases b103
    all_goals ((try simp only [rck6T, cond_true, cond_false, Bool.not_true, Bool.not_false, Bool.and_true, Bool.true_and, Bool.and_false, Bool.false_and] at s4); first | (exact op_skip (rck6_6 ps) (by rw [wanted_of rfl (rck6_4 ps) rfl s4]; rfl) (hK w hSw)) | (exact op_valW (rck6_6 ps) (by rw [wanted_of rfl (rck6_4 ps) rfl s4]; rfl) (by unfold rck6O6 execOp; simp only [u5, rck6T, cond_true, cond_false, Bool.not_true, Bool.not_false, Bool.and_true, Bool.true_and, Bool.and_false, Bool.false_and]; first | (go_simp; done) | (go_simp; with_reducible rfl)) (hK w hSw)))
    | 7, _, ho =>
    obtain rfl := Option.some.inj (ho.symm.trans (rck6_7 ps))
    have s5 := hs 5 51 (by rfl) rfl
    have s6 := hs 6 52 (by rfl) rfl
    have s4 := hs 4 50 (by rfl) rfl
    cases b1 <;> cases b103
    all_goals ((try simp only [rck6T, cond_true, cond_false, Bool.not_true, Bool.not_false, Bool.and_true, Bool.true_and, Bool.and_false, Bool.false_and] at s5 s6 s4); first | (exact op_skip (rck6_7 ps) (by rw [wanted_of rfl (rck6_4 ps) rfl s4]; rfl) (hK w hSw)) | (exact op_valW (rck6_7 ps) (by rw [wanted_of rfl (rck6_4 ps) rfl s4]; rfl) (by unfold rck6O7 execOp; simp only [s5, s6, rck6T, cond_true, cond_false, Bool.not_true, Bool.not_false, Bool.and_true, Bool.true_and, Bool.and_false, Bool.false_and]; first | (go_simp; done) | (go_simp; with_reducible rfl)) (hK w hSw)))
    | 8, _, ho =>
    obtain rfl := Option.some.inj (ho.symm.trans (rck6_8 ps))
    have s7 := hs 7 53 (by rfl) rfl
    have s4 := hs 4 50 (by rfl) rfl
    cases b1 <;> cases b103
    all_goals ((try simp only [rck6T, cond_true, cond_false, Bool.not_true, Bool.not_false, Bool.and_true, Bool.true_and, Bool.and_false, Bool.false_and] at s7 s4); first | (exact op_skip (rck6_8 ps) (by rw [wanted_of rfl (rck6_4 ps) rfl s4]; rfl) (hK w hSw)) | (exact op_valW (rck6_8 ps) (by rw [wanted_of rfl (rck6_4 ps) rfl s4]; rfl) (by unfold rck6O8 execOp; simp only [s7, rck6T, cond_true, cond_false, Bool.not_true, Bool.not_false, Bool.and_true, Bool.true_and, Bool.and_false, Bool.false_and]; first | (go_simp; done) | (go_simp; with_reducible rfl)) (hK w hSw)))
    | 9, _, ho =>
    obtain rfl := Option.some.inj (ho.symm.trans (rck6_9 ps))
    have s8 := hs 8 54 (by rfl) rfl
    have s4 := hs 4 50 (by rfl) rfl
    have hcl := cell_heap hSw.1 hx1
    cases b1 <;> cases b103
    all_goals ((try simp only [rck6T, cond_true, cond_false, Bool.not_true, Bool.not_false, Bool.and_true, Bool.true_and, Bool.and_false, Bool.false_and] at s8 s4); first | (exact op_skip (rck6_9 ps) (by rw [wanted_of rfl (rck6_4 ps) rfl s4]; rfl) (hK w hSw)) | (exact op_valW (rck6_9 ps) (by rw [wanted_of rfl (rck6_4 ps) rfl s4]; rfl) (by unfold rck6O9 execOp; simp only [s8, rck6T, cond_true, cond_false, Bool.not_true, Bool.not_false, Bool.and_true, Bool.true_and, Bool.and_false, Bool.false_and]; first | (go_simp; done) | (go_simp; with_reducible rfl)) (hK w hSw)))
    | 10, _, ho =>
    obtain rfl := Option.some.inj (ho.symm.trans (rck6_10 ps))
    have s4 := hs 4 50 (by rfl) rfl
    have u0 : a.eval (.tmp 0) = .slice (some ⟨b, o, none⟩) n c := (hel 0 (by decide)).trans e0
    cases b1 <;> cases b103
    all_goals ((try simp only [rck6T, cond_true, cond_false, Bool.not_true, Bool.not_false, Bool.and_true, Bool.true_and, Bool.and_false, Bool.false_and] at s4); first | (exact op_skip (rck6_10 ps) (by rw [wanted_of rfl (rck6_4 ps) rfl s4]; rfl) (hK w hSw)) | (exact op_valW (rck6_10 ps) (by rw [wanted_of rfl (rck6_4 ps) rfl s4]; rfl) (by unfold rck6O10 execOp; simp only [u0, rck6T, cond_true, cond_false, Bool.not_true, Bool.not_false, Bool.and_true, Bool.true_and, Bool.and_false, Bool.false_and]; first | (go_simp; done) | (go_simp; with_reducible rfl)) (hK w hSw)))
    | 11, _, ho =>
    obtain rfl := Option.some.inj (ho.symm.trans (rck6_11 ps))
    have s4 := hs 4 50 (by rfl) rfl
    have u5 : a.eval (.tmp 5) = .int .i64 (i : Int) := (hel 5 (by decide)).trans e5
    cases b1 <;> cases b103
    all_goals ((try simp only [rck6T, cond_true, cond_false, Bool.not_true, Bool.not_false, Bool.and_true, Bool.true_and, Bool.and_false, Bool.false_and] at s4); first | (exact op_skip (rck6_11 ps) (by rw [wanted_of rfl (rck6_4 ps) rfl s4]; rfl) (hK w hSw)) | (exact op_valW (rck6_11 ps) (by rw [wanted_of rfl (rck6_4 ps) rfl s4]; rfl) (by unfold rck6O11 execOp; simp only [u5, rck6T, cond_true, cond_false, Bool.not_true, Bool.not_false, Bool.and_true, Bool.true_and, Bool.and_false, Bool.false_and]; first | (go_simp; done) | (go_simp; with_reducible rfl)) (hK w hSw)))
    | 12, _, ho =>
    obtain rfl := Option.some.inj (ho.symm.trans (rck6_12 ps))
    have s11 := hs 11 57 (by rfl) rfl
    have s4 := hs 4 50 (by rfl) rfl
    cases b1 <;> cases b103
    all_goals ((try simp only [rck6T, cond_true, cond_false, Bool.not_true, Bool.not_false, Bool.and_true, Bool.true_and, Bool.and_false, Bool.false_and] at s11 s4); first | (exact op_skip (rck6_12 ps) (by rw [wanted_of rfl (rck6_4 ps) rfl s4]; rfl) (hK w hSw)) | (have hcl := (hj hb1).1; exact op_valW (rck6_12 ps) (by rw [wanted_of rfl (rck6_4 ps) rfl s4]; rfl) (by unfold rck6O12 execOp; simp only [s11, rck6T, cond_true, cond_false, Bool.not_true, Bool.not_false, Bool.and_true, Bool.true_and, Bool.and_false, Bool.false_and]; first | (go_simp; done) | (go_simp; with_reducible rfl)) (hK w hSw)))
    | 13, _, ho =>
    obtain rfl := Option.some.inj (ho.symm.trans (rck6_13 ps))
    have s10 := hs 10 56 (by rfl) rfl
    have s12 := hs 12 58 (by rfl) rfl
    have s4 := hs 4 50 (by rfl) rfl
    cases b1 <;> cases b103
    all_goals ((try simp only [rck6T, cond_true, cond_false, Bool.not_true, Bool.not_false, Bool.and_true, Bool.true_and, Bool.and_false, Bool.false_and] at s10 s12 s4); first | (exact op_skip (rck6_13 ps) (by rw [wanted_of rfl (rck6_4 ps) rfl s4]; rfl) (hK w hSw)) | (have hcl := (hj hb1).2.1; exact op_valW (rck6_13 ps) (by rw [wanted_of rfl (rck6_4 ps) rfl s4]; rfl) (by unfold rck6O13 execOp; simp only [s10, s12, rck6T, cond_true, cond_false, Bool.not_true, Bool.not_false, Bool.and_true, Bool.true_and, Bool.and_false, Bool.false_and]; first | (go_simp; done) | (go_simp; with_reducible rfl)) (hK w hSw)))
    | 14, _, ho =>
    obtain rfl := Option.some.inj (ho.symm.trans (rck6_14 ps))
    have s13 := hs 13 59 (by rfl) rfl
    have s4 := hs 4 50 (by rfl) rfl
    cases b1 <;> cases b103
    all_goals ((try simp only [rck6T, cond_true, cond_false, Bool.not_true, Bool.not_false, Bool.and_true, Bool.true_and, Bool.and_false, Bool.false_and] at s13 s4); first | (exact op_skip (rck6_14 ps) (by rw [wanted_of rfl (rck6_4 ps) rfl s4]; rfl) (hK w hSw)) | (exact op_valW (rck6_14 ps) (by rw [wanted_of rfl (rck6_4 ps) rfl s4]; rfl) (by unfold rck6O14 execOp; simp only [s13, rck6T, cond_true, cond_false, Bool.not_true, Bool.not_false, Bool.and_true, Bool.true_and, Bool.and_false, Bool.false_and]; first | (go_simp; done) | (go_simp; with_reducible rfl)) (hK w hSw)))
    | 15, _, ho =>
    obtain rfl := Option.some.inj (ho.symm.trans (rck6_15 ps))
    have s14 := hs 14 60 (by rfl) rfl
    have s4 := hs 4 50 (by rfl) rfl
    cases b1 <;> cases b103
    all_goals ((try simp only [rck6T, cond_true, cond_false, Bool.not_true, Bool.not_false, Bool.and_true, Bool.true_and, Bool.and_false, Bool.false_and] at s14 s4); first | (exact op_skip (rck6_15 ps) (by rw [wanted_of rfl (rck6_4 ps) rfl s4]; rfl) (hK w hSw)) | (have hcl := cell_heap hSw.1 (hj hb1).2.2.2; exact op_valW (rck6_15 ps) (by rw [wanted_of rfl (rck6_4 ps) rfl s4]; rfl) (by unfold rck6O15 execOp; simp only [s14, rck6T, cond_true, cond_false, Bool.not_true, Bool.not_false, Bool.and_true, Bool.true_and, Bool.and_false, Bool.false_and]; first | (go_simp; done) | (go_simp; with_reducible rfl)) (hK w hSw)))
    | 16, _, ho =>
    obtain rfl := Option.some.inj (ho.symm.trans (rck6_16 ps))
    have s9 := hs 9 55 (by rfl) rfl
    have s15 := hs 15 61 (by rfl) rfl
    have s4 := hs 4 50 (by rfl) rfl
    cases b1 <;> cases b103
    all_goals ((try simp only [rck6T, cond_true, cond_false, Bool.not_true, Bool.not_false, Bool.and_true, Bool.true_and, Bool.and_false, Bool.false_and] at s9 s15 s4); first | (exact op_skip (rck6_16 ps) (by rw [wanted_of rfl (rck6_4 ps) rfl s4]; rfl) (hK w hSw)) | (exact op_valW (rck6_16 ps) (by rw [wanted_of rfl (rck6_4 ps) rfl s4]; rfl) (by unfold rck6O16 execOp; simp only [s9, s15, rck6T, cond_true, cond_false, Bool.not_true, Bool.not_false, Bool.and_true, Bool.true_and, Bool.and_false, Bool.false_and]; first | (go_simp; done) | (go_simp; with_reducible rfl)) (hK w hSw)))
    | 17, _, ho =>
    obtain rfl := Option.some.inj (ho.symm.trans (rck6_17 ps))
    have s4 := hs 4 50 (by rfl) rfl
    have s16 := hs 16 62 (by rfl) rfl
    have s2 := hs 2 48 (by rfl) rfl
    cases b1 <;> cases b103
    all_goals ((try simp only [rck6T, cond_true, cond_false, Bool.not_true, Bool.not_false, Bool.and_true, Bool.true_and, Bool.and_false, Bool.false_and] at s4 s16 s2); (try (simp only [Bool.true_or, Bool.false_or, Bool.true_and, Bool.false_and] at hd17; subst hd17)); first | (exact op_skip (rck6_17 ps) (by rw [wanted_of rfl (rck6_2 ps) rfl s2]; rfl) (hK w hSw)) | (exact op_valW (rck6_17 ps) (by rw [wanted_of rfl (rck6_2 ps) rfl s2]; rfl) (by unfold rck6O17 execOp; simp only [s4, s16, rck6T, cond_true, cond_false, Bool.not_true, Bool.not_false, Bool.and_true, Bool.true_and, Bool.and_false, Bool.false_and]; first | (go_simp; done) | (go_simp; with_reducible rfl)) (hK w hSw)))
    | 18, _, ho =>
    obtain rfl := Option.some.inj (ho.symm.trans (rck6_18 ps))
    have s17 := hs 17 63 (by rfl) rfl
    have s2 := hs 2 48 (by rfl) rfl
    cases b1
    all_goals ((try simp only [rck6T, cond_true, cond_false, Bool.not_true, Bool.not_false, Bool.and_true, Bool.true_and, Bool.and_false, Bool.false_and] at s17 s2); first | (exact op_skip (rck6_18 ps) (by rw [wanted_of rfl (rck6_2 ps) rfl s2]; rfl) (hK w hSw)) | (exact op_valW (rck6_18 ps) (by rw [wanted_of rfl (rck6_2 ps) rfl s2]; rfl) (by unfold rck6O18 execOp; simp only [s17, rck6T, cond_true, cond_false, Bool.not_true, Bool.not_false, Bool.and_true, Bool.true_and, Bool.and_false, Bool.false_and]; first | (go_simp; done) | (go_simp; with_reducible rfl)) (hK w hSw)))
    | 19, _, ho =>
    obtain rfl := Option.some.inj (ho.symm.trans (rck6_19 ps))
    have s18 := hs 18 64 (by rfl) rfl
    have u1 : a.eval (.tmp 1) = .bool b103 := (hel 1 (by decide)).trans e1
    cases b1 <;> cases d17
    all_goals ((try simp only [rck6T, cond_true, cond_false, Bool.not_true, Bool.not_false, Bool.and_true, Bool.true_and, Bool.and_false, Bool.false_and] at s18); first | (exact op_skip (rck6_19 ps) (by rw [wanted_of rfl (rck6_18 ps) rfl s18]; rfl) (hK w hSw)) | (exact op_valW (rck6_19 ps) (by rw [wanted_of rfl (rck6_18 ps) rfl s18]; rfl) (by unfold rck6O19 execOp; simp only [u1, rck6T, cond_true, cond_false, Bool.not_true, Bool.not_false, Bool.and_true, Bool.true_and, Bool.and_false, Bool.false_and]; first | (go_simp; done) | (go_simp; with_reducible rfl)) (hK w hSw)))
    | 20, _, ho =>
    obtain rfl := Option.some.inj (ho.symm.trans (rck6_20 ps))
    have s19 := hs 19 65 (by rfl) rfl
    have s18 := hs 18 64 (by rfl) rfl
    cases b1 <;> cases d17
    all_goals ((try simp only [rck6T, cond_true, cond_false, Bool.not_true, Bool.not_false, Bool.and_true, Bool.true_and, Bool.and_false, Bool.false_and] at s19 s18); subst hd20; first | (exact op_skip (rck6_20 ps) (by rw [wanted_of rfl (rck6_18 ps) rfl s18]; rfl) (hK w hSw)) | (exact op_valW (rck6_20 ps) (by rw [wanted_of rfl (rck6_18 ps) rfl s18]; rfl) (by unfold rck6O20 execOp; simp only [s19, rck6T, cond_true, cond_false, Bool.not_true, Bool.not_false, Bool.and_true, Bool.true_and, Bool.and_false, Bool.false_and]; first | (go_simp; done) | (go_simp; with_reducible rfl)) (hK w hSw)))
    | 21, _, ho =>
    obtain rfl := Option.some.inj (ho.symm.trans (rck6_21 ps))
    have s20 := hs 20 66 (by rfl) rfl
    have s18 := hs 18 64 (by rfl) rfl
    cases b1 <;> cases d17
    all_goals ((try simp only [rck6T, cond_true, cond_false, Bool.not_true, Bool.not_false, Bool.and_true, Bool.true_and, Bool.and_false, Bool.false_and] at s20 s18); first | (exact op_skip (rck6_21 ps) (by rw [wanted_of rfl (rck6_18 ps) rfl s18]; rfl) (hK w hSw)) | (exact op_valW (rck6_21 ps) (by rw [wanted_of rfl (rck6_18 ps) rfl s18]; rfl) (by unfold rck6O21 execOp; simp only [s20, rck6T, cond_true, cond_false, Bool.not_true, Bool.not_false, Bool.and_true, Bool.true_and, Bool.and_false, Bool.false_and]; first | (go_simp; done) | (go_simp; with_reducible rfl)) (hK w hSw)))
    | 22, _, ho =>
    obtain rfl := Option.some.inj (ho.symm.trans (rck6_22 ps))
    have s21 := hs 21 67 (by rfl) rfl
    have u0 : a.eval (.tmp 0) = .slice (some ⟨b, o, none⟩) n c := (hel 0 (by decide)).trans e0
    cases b1 <;> cases d17 <;> cases d20
    all_goals ((try simp only [rck6T, cond_true, cond_false, Bool.not_true, Bool.not_false, Bool.and_true, Bool.true_and, Bool.and_false, Bool.false_and] at s21); first | (exact op_skip (rck6_22 ps) (by rw [wanted_of rfl (rck6_21 ps) rfl s21]; rfl) (hK w hSw)) | (exact op_valW (rck6_22 ps) (by rw [wanted_of rfl (rck6_21 ps) rfl s21]; rfl) (by unfold rck6O22 execOp; simp only [u0, rck6T, cond_true, cond_false, Bool.not_true, Bool.not_false, Bool.and_true, Bool.true_and, Bool.and_false, Bool.false_and]; first | (go_simp; done) | (go_simp; with_reducible rfl)) (hK w hSw)))
    | 23, _, ho =>
    obtain rfl := Option.some.inj (ho.symm.trans (rck6_23 ps))
    have s21 := hs 21 67 (by rfl) rfl
    have u5 : a.eval (.tmp 5) = .int .i64 (i : Int) := (hel 5 (by decide)).trans e5
    cases b1 <;> cases d17 <;> cases d20
    all_goals ((try simp only [rck6T, cond_true, cond_false, Bool.not_true, Bool.not_false, Bool.and_true, Bool.true_and, Bool.and_false, Bool.false_and] at s21); first | (exact op_skip (rck6_23 ps) (by rw [wanted_of rfl (rck6_21 ps) rfl s21]; rfl) (hK w hSw)) | (exact op_valW (rck6_23 ps) (by rw [wanted_of rfl (rck6_21 ps) rfl s21]; rfl) (by unfold rck6O23 execOp; simp only [u5, rck6T, cond_true, cond_false, Bool.not_true, Bool.not_false, Bool.and_true, Bool.true_and, Bool.and_false, Bool.false_and]; first | (go_simp; done) | (go_simp; with_reducible rfl)) (hK w hSw)))
    | 24, _, ho =>
    obtain rfl := Option.some.inj (ho.symm.trans (rck6_24 ps))
    have s22 := hs 22 68 (by rfl) rfl
    have s23 := hs 23 69 (by rfl) rfl
    have s21 := hs 21 67 (by rfl) rfl
    cases b1 <;> cases d17 <;> cases d20
    all_goals ((try simp only [rck6T, cond_true, cond_false, Bool.not_true, Bool.not_false, Bool.and_true, Bool.true_and, Bool.and_false, Bool.false_and] at s22 s23 s21); first | (exact op_skip (rck6_24 ps) (by rw [wanted_of rfl (rck6_21 ps) rfl s21]; rfl) (hK w hSw)) | (exact op_valW (rck6_24 ps) (by rw [wanted_of rfl (rck6_21 ps) rfl s21]; rfl) (by unfold rck6O24 execOp; simp only [s22, s23, rck6T, cond_true, cond_false, Bool.not_true, Bool.not_false, Bool.and_true, Bool.true_and, Bool.and_false, Bool.false_and]; first | (go_simp; done) | (go_simp; with_reducible rfl)) (hK w hSw)))
    | 25, _, ho =>
    obtain rfl := Option.some.inj (ho.symm.trans (rck6_25 ps))
    have s24 := hs 24 70 (by rfl) rfl
    have s21 := hs 21 67 (by rfl) rfl
    cases b1 <;> cases d17 <;> cases d20
    all_goals ((try simp only [rck6T, cond_true, cond_false, Bool.not_true, Bool.not_false, Bool.and_true, Bool.true_and, Bool.and_false, Bool.false_and] at s24 s21); first | (exact op_skip (rck6_25 ps) (by rw [wanted_of rfl (rck6_21 ps) rfl s21]; rfl) (hK w hSw)) | (exact op_valW (rck6_25 ps) (by rw [wanted_of rfl (rck6_21 ps) rfl s21]; rfl) (by unfold rck6O25 execOp; simp only [s24, rck6T, cond_true, cond_false, Bool.not_true, Bool.not_false, Bool.and_true, Bool.true_and, Bool.and_false, Bool.false_and]; first | (go_simp; done) | (go_simp; with_reducible rfl)) (hK w hSw)))
    | 26, _, ho =>
    obtain rfl := Option.some.inj (ho.symm.trans (rck6_26 ps))
    have s25 := hs 25 71 (by rfl) rfl
    have s21 := hs 21 67 (by rfl) rfl
    have hcl := cell_heap hSw.1 hx1
    cases b1 <;> cases d17 <;> cases d20
    all_goals ((try simp only [rck6T, cond_true, cond_false, Bool.not_true, Bool.not_false, Bool.and_true, Bool.true_and, Bool.and_false, Bool.false_and] at s25 s21); first | (exact op_skip (rck6_26 ps) (by rw [wanted_of rfl (rck6_21 ps) rfl s21]; rfl) (hK w hSw)) | (exact op_valW (rck6_26 ps) (by rw [wanted_of rfl (rck6_21 ps) rfl s21]; rfl) (by unfold rck6O26 execOp; simp only [s25, rck6T, cond_true, cond_false, Bool.not_true, Bool.not_false, Bool.and_true, Bool.true_and, Bool.and_false, Bool.false_and]; first | (go_simp; done) | (go_simp; with_reducible rfl)) (hK w hSw)))
    | 27, _, ho =>
    obtain rfl := Option.some.inj (ho.symm.trans (rck6_27 ps))
    have s21 := hs 21 67 (by rfl) rfl
    have u0 : a.eval (.tmp 0) = .slice (some ⟨b, o, none⟩) n c := (hel 0 (by decide)).trans e0
    cases b1 <;> cases d17 <;> cases d20
    all_goals ((try simp only [rck6T, cond_true, cond_false, Bool.not_true, Bool.not_false, Bool.and_true, Bool.true_and, Bool.and_false, Bool.false_and] at s21); first | (exact op_skip (rck6_27 ps) (by rw [wanted_of rfl (rck6_21 ps) rfl s21]; rfl) (hK w hSw)) | (exact op_valW (rck6_27 ps) (by rw [wanted_of rfl (rck6_21 ps) rfl s21]; rfl) (by unfold rck6O27 execOp; simp only [u0, rck6T, cond_true, cond_false, Bool.not_true, Bool.not_false, Bool.and_true, Bool.true_and, Bool.and_false, Bool.false_and]; first | (go_simp; done) | (go_simp; with_reducible rfl)) (hK w hSw)))
    | 28, _, ho =>
    obtain rfl := Option.some.inj (ho.symm.trans (rck6_28 ps))
    have s21 := hs 21 67 (by rfl) rfl
    have u5 : a.eval (.tmp 5) = .int .i64 (i : Int) := (hel 5 (by decide)).trans e5
    cases b1 <;> cases d17 <;> cases d20
    all_goals ((try simp only [rck6T, cond_true, cond_false, Bool.not_true, Bool.not_false, Bool.and_true, Bool.true_and, Bool.and_false, Bool.false_and] at s21); first | (exact op_skip (rck6_28 ps) (by rw [wanted_of rfl (rck6_21 ps) rfl s21]; rfl) (hK w hSw)) | (exact op_valW (rck6_28 ps) (by rw [wanted_of rfl (rck6_21 ps) rfl s21]; rfl) (by unfold rck6O28 execOp; simp only [u5, rck6T, cond_true, cond_false, Bool.not_true, Bool.not_false, Bool.and_true, Bool.true_and, Bool.and_false, Bool.false_and]; first | (go_simp; done) | (go_simp; with_reducible rfl)) (hK w hSw)))
    | 29, _, ho =>
    obtain rfl := Option.some.inj (ho.symm.trans (rck6_29 ps))
    have s28 := hs 28 74 (by rfl) rfl
    have s21 := hs 21 67 (by rfl) rfl
    cases b1 <;> cases d17 <;> cases d20
    all_goals ((try simp only [rck6T, cond_true, cond_false, Bool.not_true, Bool.not_false, Bool.and_true, Bool.true_and, Bool.and_false, Bool.false_and] at s28 s21); first | (exact op_skip (rck6_29 ps) (by rw [wanted_of rfl (rck6_21 ps) rfl s21]; rfl) (hK w hSw)) | (have hcl := (hj hb1).1; exact op_valW (rck6_29 ps) (by rw [wanted_of rfl (rck6_21 ps) rfl s21]; rfl) (by unfold rck6O29 execOp; simp only [s28, rck6T, cond_true, cond_false, Bool.not_true, Bool.not_false, Bool.and_true, Bool.true_and, Bool.and_false, Bool.false_and]; first | (go_simp; done) | (go_simp; with_reducible rfl)) (hK w hSw)))
    | 30, _, ho =>
    obtain rfl := Option.some.inj (ho.symm.trans (rck6_30 ps))
    have s27 := hs 27 73 (by rfl) rfl
    have s29 := hs 29 75 (by rfl) rfl
    have s21 := hs 21 67 (by rfl) rfl
    cases b1 <;> cases d17 <;> cases d20
    all_goals ((try simp only [rck6T, cond_true, cond_false, Bool.not_true, Bool.not_false, Bool.and_true, Bool.true_and, Bool.and_false, Bool.false_and] at s27 s29 s21); first | (exact op_skip (rck6_30 ps) (by rw [wanted_of rfl (rck6_21 ps) rfl s21]; rfl) (hK w hSw)) | (have hcl := (hj hb1).2.1; exact op_valW (rck6_30 ps) (by rw [wanted_of rfl (rck6_21 ps) rfl s21]; rfl) (by unfold rck6O30 execOp; simp only [s27, s29, rck6T, cond_true, cond_false, Bool.not_true, Bool.not_false, Bool.and_true, Bool.true_and, Bool.and_false, Bool.false_and]; first | (go_simp; done) | (go_simp; with_reducible rfl)) (hK w hSw)))
    | 31, _, ho =>
    obtain rfl := Option.some.inj (ho.symm.trans (rck6_31 ps))
    have s30 := hs 30 76 (by rfl) rfl
    have s21 := hs 21 67 (by rfl) rfl
    cases b1 <;> cases d17 <;> cases d20
    all_goals ((try simp only [rck6T, cond_true, cond_false, Bool.not_true, Bool.not_false, Bool.and_true, Bool.true_and, Bool.and_false, Bool.false_and] at s30 s21); first | (exact op_skip (rck6_31 ps) (by rw [wanted_of rfl (rck6_21 ps) rfl s21]; rfl) (hK w hSw)) | (exact op_valW (rck6_31 ps) (by rw [wanted_of rfl (rck6_21 ps) rfl s21]; rfl) (by unfold rck6O31 execOp; simp only [s30, rck6T, cond_true, cond_false, Bool.not_true, Bool.not_false, Bool.and_true, Bool.true_and, Bool.and_false, Bool.false_and]; first | (go_simp; done) | (go_simp; with_reducible rfl)) (hK w hSw)))
    | 32, _, ho =>
    obtain rfl := Option.some.inj (ho.symm.trans (rck6_32 ps))
    have s31 := hs 31 77 (by rfl) rfl
    have s21 := hs 21 67 (by rfl) rfl
    cases b1 <;> cases d17 <;> cases d20
    all_goals ((try simp only [rck6T, cond_true, cond_false, Bool.not_true, Bool.not_false, Bool.and_true, Bool.true_and, Bool.and_false, Bool.false_and] at s31 s21); first | (exact op_skip (rck6_32 ps) (by rw [wanted_of rfl (rck6_21 ps) rfl s21]; rfl) (hK w hSw)) | (have hcl := cell_heap hSw.1 (hj hb1).2.2.2; exact op_valW (rck6_32 ps) (by rw [wanted_of rfl (rck6_21 ps) rfl s21]; rfl) (by unfold rck6O32 execOp; simp only [s31, rck6T, cond_true, cond_false, Bool.not_true, Bool.not_false, Bool.and_true, Bool.true_and, Bool.and_false, Bool.false_and]; first | (go_simp; done) | (go_simp; with_reducible rfl)) (hK w hSw)))
    | 33, _, ho =>
    obtain rfl := Option.some.inj (ho.symm.trans (rck6_33 ps))
    have s26 := hs 26 72 (by rfl) rfl
    have s32 := hs 32 78 (by rfl) rfl
    have s21 := hs 21 67 (by rfl) rfl
    cases b1 <;> cases d17 <;> cases d20
    all_goals ((try simp only [rck6T, cond_true, cond_false, Bool.not_true, Bool.not_false, Bool.and_true, Bool.true_and, Bool.and_false, Bool.false_and] at s26 s32 s21); first | (exact op_skip (rck6_33 ps) (by rw [wanted_of rfl (rck6_21 ps) rfl s21]; rfl) (hK w hSw)) | (exact op_valW (rck6_33 ps) (by rw [wanted_of rfl (rck6_21 ps) rfl s21]; rfl) (by unfold rck6O33 execOp; simp only [s26, s32, rck6T, cond_true, cond_false, Bool.not_true, Bool.not_false, Bool.and_true, Bool.true_and, Bool.and_false, Bool.false_and]; first | (go_simp; done) | (go_simp; with_reducible rfl)) (hK w hSw)))
    | 34, _, ho =>
    obtain rfl := Option.some.inj (ho.symm.trans (rck6_34 ps))
    have s21 := hs 21 67 (by rfl) rfl
    have s33 := hs 33 79 (by rfl) rfl
    have s18 := hs 18 64 (by rfl) rfl
    cases b1 <;> cases d17 <;> cases d20
    all_goals ((try simp only [rck6T, cond_true, cond_false, Bool.not_true, Bool.not_false, Bool.and_true, Bool.true_and, Bool.and_false, Bool.false_and] at s21 s33 s18); (try (simp only [Bool.true_or, Bool.false_or, Bool.true_and, Bool.false_and] at hd34; subst hd34)); first | (exact op_skip (rck6_34 ps) (by rw [wanted_of rfl (rck6_18 ps) rfl s18]; rfl) (hK w hSw)) | (exact op_valW (rck6_34 ps) (by rw [wanted_of rfl (rck6_18 ps) rfl s18]; rfl) (by unfold rck6O34 execOp; simp only [s21, s33, rck6T, cond_true, cond_false, Bool.not_true, Bool.not_false, Bool.and_true, Bool.true_and, Bool.and_false, Bool.false_and]; first | (go_simp; done) | (go_simp; with_reducible rfl)) (hK w hSw)))
    | 35, _, ho =>
    obtain rfl := Option.some.inj (ho.symm.trans (rck6_35 ps))
    have s18 := hs 18 64 (by rfl) rfl
    have s34 := hs 34 80 (by rfl) rfl
    have s2 := hs 2 48 (by rfl) rfl
    cases b1 <;> cases d17
    all_goals ((try simp only [rck6T, cond_true, cond_false, Bool.not_true, Bool.not_false, Bool.and_true, Bool.true_and, Bool.and_false, Bool.false_and] at s18 s34 s2); (try (simp only [Bool.true_or, Bool.false_or, Bool.true_and, Bool.false_and] at hd35; subst hd35)); first | (exact op_skip (rck6_35 ps) (by rw [wanted_of rfl (rck6_2 ps) rfl s2]; rfl) (hK w hSw)) | (exact op_valW (rck6_35 ps) (by rw [wanted_of rfl (rck6_2 ps) rfl s2]; rfl) (by unfold rck6O35 execOp; simp only [s18, s34, rck6T, cond_true, cond_false, Bool.not_true, Bool.not_false, Bool.and_true, Bool.true_and, Bool.and_false, Bool.false_and]; first | (go_simp; done) | (go_simp; with_reducible rfl)) (hK w hSw)))
    | 36, _, ho =>
    obtain rfl := Option.some.inj (ho.symm.trans (rck6_36 ps))
    have s2 := hs 2 48 (by rfl) rfl
    have s35 := hs 35 81 (by rfl) rfl
    cases b1
    all_goals ((try simp only [rck6T, cond_true, cond_false, Bool.not_true, Bool.not_false, Bool.and_true, Bool.true_and, Bool.and_false, Bool.false_and] at s2 s35); (try (simp only [Bool.true_or, Bool.false_or, Bool.true_and, Bool.false_and] at hd36; subst hd36)); exact op_valW (rck6_36 ps) rfl (by unfold rck6O36 execOp; simp only [s2, s35, rck6T, cond_true, cond_false, Bool.not_true, Bool.not_false, Bool.and_true, Bool.true_and, Bool.and_false, Bool.false_and]; first | (go_simp; done) | (go_simp; with_reducible rfl)) (hK w hSw))
    | iq + 37, hin, _ => exact absurd hin (by omega)
end Go.Proofs.YtagmighcofllhaaDoor.Fil

/- The document's Check; Same. -/
namespace Go.Proofs.YtagmighcofllhaaDoor.Fil
open Go.ChangeShapes Go.WideShapes Go.ChangeAt Go.RowKit Go.Shelf
set_option linter.unusedVariables false
set_option linter.unusedSimpArgs false

theorem rtake_last {l : List Tm} {j : Nat} (h : j < l.length) : lastE none (l.take (j + 1)) = some (l[j]?.getD (0, 0)) := by
  rw [take_snoc h rfl, lastE_snoc]
set_option maxRecDepth 100000 in
set_option maxHeartbeats 4000000 in
theorem refCheck_any (A : Option Addr) (cap : Nat) (ts : List Tm) (m : Bool) (w : World) (hT : TimsAt w A ts) (n : Nat) (hn : ts.length = n) (q : Int) (hq : errI m ts = q) :
    Calls Tryd.prog 47 #[.slice A n cap, .bool m] w fun e w' => e = .returned (.int .i64 q) ∧ Below w.heap.size w w' := by
  subst hq
  have HT : Hid (TimsAt w A ts) := hT
  have hml : ts.length ≤ 9223372036854775807 := hT.1
  have HN : Hid (ts.length = n) := hn
  rw [hn] at hml
  clear hT hn
  go_enter Tryd.func47, Tryd.ntmps47
  go_wp2_with fail
  go_loopw [5] (fun vi wr => ∃ (i : Nat), vi = .int .i64 i ∧ i ≤ n ∧ Hid (chk m none (ts.take i) = true) ∧ Hid (Below w.heap.size w wr))
    (fun vi _ => n - (intOf vi).toNat)
  case atStart => exact ⟨0, rfl, Nat.zero_le _, by simp [chk, Hid], Below.refl _ _⟩
  case round =>
    obtain ⟨i, rfl, hin, HC, HB⟩ := hrel
    by_cases hlt : i < n
    · have hi' : i < ts.length := by have := HN.out; omega
      obtain ⟨kb, ko, rfl, hc0, hc1⟩ := HT.out.2 i hi'
      obtain ⟨x, hx⟩ : ∃ x, ts[i]?.getD (0, 0) = x := ⟨_, rfl⟩
      rw [hx] at hc0 hc1
      have HX : Hid (∀ U, Below w.heap.size w U → U.cell? ⟨kb, ko + i * 2, none⟩ = some (.int .i64 x.1) ∧ U.cell? ⟨kb, ko + i * 2 + 1, none⟩ = some (.int .i64 x.2)) := fun U hU =>
        ⟨(hU.cell (p := ⟨kb, ko + i * 2, none⟩) (lt_of_cell hc0)).trans hc0, (hU.cell (p := ⟨kb, ko + i * 2 + 1, none⟩) (lt_of_cell hc1)).trans hc1⟩
      have htk : ts.take (i + 1) = ts.take i ++ [x] := take_snoc hi' hx
      have HS : Hid (chk m none (ts.take (i + 1)) = okAt m (lastE none (ts.take i)) x) := by
        unfold Hid; rw [htk, chk_snoc, HC.out, Bool.true_and]
      have HE : Hid (okAt m (lastE none (ts.take i)) x = false → errI m ts = 2) := fun h => by
        unfold errI
        rw [if_neg]
        rw [chk_prefix (List.take_prefix (i + 1) ts) (HS.out.trans h)]
        decide
      have hlt' : (i : Int) < (n : Int) := by omega
      obtain ⟨p, hp⟩ : ∃ p, ts[i - 1]?.getD (0, 0) = p := ⟨_, rfl⟩
      obtain ⟨j, hj⟩ : ∃ j, i - 1 = j := ⟨_, rfl⟩
      have HP : Hid (decide (0 < i) = true → lastE none (ts.take i) = some p ∧ ∀ U, Below w.heap.size w U → IntKind.i64.wrap ((i : Int) - 1) = (j : Int) ∧ (j : Int) < (n : Int) ∧ U.cell? ⟨kb, ko + j * 2, none⟩ = some (.int .i64 p.1) ∧ U.cell? ⟨kb, ko + j * 2 + 1, none⟩ = some (.int .i64 p.2)) := fun h => by
        have h0 : 0 < i := by simpa using h
        obtain ⟨_, _, e, h1, h2⟩ := HT.out.2 j (by omega)
        cases e
        rw [hj] at hp
        rw [hp] at h1 h2
        refine ⟨?_, fun U hU => ⟨?_, by omega, (hU.cell (p := ⟨kb, ko + j * 2, none⟩) (lt_of_cell h1)).trans h1, (hU.cell (p := ⟨kb, ko + j * 2 + 1, none⟩) (lt_of_cell h2)).trans h2⟩⟩
        · have := rtake_last (l := ts) (j := j) (by omega)
          rw [hp] at this
          rw [show i = j + 1 from by omega]
          exact this
        · rw [IntKind.wrap_i64]; omega
      have HZ : Hid (decide (0 < i) = false → lastE none (ts.take i) = none) := fun h => by
        have h0 : i = 0 := by simpa using h
        subst h0
        rfl
      clear hx htk hp hj hc0 hc1 hi'
      go_upto_region 4 with fail
      obtain ⟨b1, hb1⟩ : ∃ b1, decide (0 < i) = b1 := ⟨_, rfl⟩
      obtain ⟨d15, hd15⟩ : ∃ d15, ((!timeB x.1) || (!valB x.2)) = d15 := ⟨_, rfl⟩
      obtain ⟨b31, hb31⟩ : ∃ b31, decide (x.1 ≤ p.1) = b31 := ⟨_, rfl⟩
      obtain ⟨d32, hd32⟩ : ∃ d32, (b1 && b31) = d32 := ⟨_, rfl⟩
      obtain ⟨d33, hd33⟩ : ∃ d33, (d15 || d32) = d33 := ⟨_, rfl⟩
      obtain ⟨b16, hb16⟩ : ∃ b16, decide (p.2 ≤ x.2) = b16 := ⟨_, rfl⟩
      obtain ⟨b33, hb33⟩ : ∃ b33, decide (x.2 ≤ p.2) = b33 := ⟨_, rfl⟩
      obtain ⟨d35, hd35⟩ : ∃ d35, ((m && b16) || ((!m) && b33)) = d35 := ⟨_, rfl⟩
      obtain ⟨d36, hd36⟩ : ∃ d36, (b1 && d35) = d36 := ⟨_, rfl⟩
      have HD : Hid ((!okAt m (lastE none (ts.take i)) x) = (d33 || d36)) := by
        unfold Hid okAt entB
        rw [← hd33, ← hd36, ← hd15, ← hd32, ← hb31, ← hd35, ← hb16, ← hb33]
        cases h5 : b1 with
        | true =>
          rw [(HP.out (hb1.trans h5)).1]
          simp only [Option.all_some, folB, beatB, Bool.true_and]
          have e1 : decide (p.1 < x.1) = !decide (x.1 ≤ p.1) := by rw [← decide_not]; congr 1; simp
          have e2 : decide (x.2 < p.2) = !decide (p.2 ≤ x.2) := by rw [← decide_not]; congr 1; simp
          have e3 : decide (p.2 < x.2) = !decide (x.2 ≤ p.2) := by rw [← decide_not]; congr 1; simp
          rw [e1, e2, e3]
          cases timeB x.1 <;> cases valB x.2 <;> cases decide (x.1 ≤ p.1) <;> cases decide (p.2 ≤ x.2) <;> cases decide (x.2 ≤ p.2) <;> cases m <;> rfl
        | false =>
          rw [HZ.out (hb1.trans h5)]
          cases timeB x.1 <;> cases valB x.2 <;> rfl
      have HJ : Hid (∀ U, Below w.heap.size w U → decide (0 < i) = true → IntKind.i64.wrap ((i : Int) - 1) = (j : Int) ∧ (j : Int) < (n : Int) ∧ U.cell? ⟨kb, ko + j * 2, none⟩ = some (.int .i64 p.1) ∧ U.cell? ⟨kb, ko + j * 2 + 1, none⟩ = some (.int .i64 p.2)) := fun U hU h => (HP.out h).2 U hU
      have H6 : Hid (decide (0 < i) = b1 ∧ decide (p.2 ≤ x.2) = b16 ∧ decide (x.2 ≤ p.2) = b33 ∧ ((m && b16) || ((!m) && b33)) = d35 ∧ (b1 && d35) = d36) := ⟨hb1, hb16, hb33, hd35, hd36⟩
      refine rck4_reg rfl kb ko i j n cap x p rfl rfl rfl rfl (HX.out wr HB.out).1 (HX.out wr HB.out).2 hlt' (HJ.out wr HB.out) rfl rfl hd15 hb1 hb31 hd32 hd33 ?_
      intro T2 W2 hT2 hS2
      have HB2 : Hid (Below w.heap.size w W2) := Below.on HB.out hS2.2
      clear hS2 hb1 hd15 hb31 hd32 hd33 hb16 hb33 hd35 hd36 HP HZ HB
      simp only [Act.put, List.setIfInBounds_toArray, List.set_cons_zero, List.set_cons_succ]
      rw [hT2]
      clear hT2
      cases d33 with
      | true =>
        have HF : Hid (errI m ts = 2) := HE.out (by have := HD.out; simpa using this)
        go_wp2_with fail
        go_ret
        exact ⟨by rw [HF.out]; rfl, HB2.out⟩
      | false =>
        go_upto_region 6 with fail
        refine rck6_reg rfl kb ko i j n cap x p m rfl rfl rfl (HX.out W2 HB2.out).1 (HX.out W2 HB2.out).2 hlt' (HJ.out W2 HB2.out) H6.out.1 H6.out.2.1 rfl rfl H6.out.2.2.1 rfl H6.out.2.2.2.1 H6.out.2.2.2.2 ?_
        intro T3 W3 hT3 hS3
        have HB3 : Hid (Below w.heap.size w W3) := Below.on HB2.out hS3.2
        clear hS3 HB2
        simp only [Act.put, List.setIfInBounds_toArray, List.set_cons_zero, List.set_cons_succ]
        rw [hT3]
        clear hT3
        cases d36 with
        | true =>
          have HF : Hid (errI m ts = 2) := HE.out (by have := HD.out; simpa using this)
          go_wp2_with fail
          go_ret
          exact ⟨by rw [HF.out]; rfl, HB3.out⟩
        | false =>
          have HF : Hid (chk m none (ts.take (i + 1)) = true) := by have := HD.out; unfold Hid; rw [HS.out]; simpa using this
          go_wp2_with fail
          go_roundw
          case rel => exact ⟨i + 1, by go_num, by omega, HF.out, HB3.out⟩
          case measure => simp [intOf]; omega
    · obtain rfl : i = n := by omega
      have HF : Hid (errI m ts = 0) := by
        have := HC.out
        rw [← HN.out, List.take_length] at this
        unfold Hid errI; rw [if_pos this]
      go_wp2_with fail
      go_ret
      exact ⟨by rw [HF.out]; rfl, HB.out⟩
end Go.Proofs.YtagmighcofllhaaDoor.Fil

/- The document's Put. -/
namespace Go.Proofs.YtagmighcofllhaaDoor.Fil
open Go.ChangeShapes Go.WideShapes Go.ChangeAt Go.RowKit Go.Shelf
set_option linter.unusedVariables false
set_option linter.unusedSimpArgs false

theorem stay_iff (m : Bool) (t v win : Int) (x : Tm) : stayB m t v win x = (!decide (x.1 + win < t) && beatB x.2 v m) := by
  unfold stayB newB
  congr 1
  rw [← decide_not]
  congr 1
  simp
theorem filter_hit {f : Tm → Bool} {l : List Tm} {i : Nat} {x : Tm} (hi : i < l.length) (hx : l[i]?.getD (0, 0) = x) (h : f x = true) : (l.take (i + 1)).filter f = (l.take i).filter f ++ [x] := by
  rw [take_snoc hi hx, List.filter_append]; simp [h]
theorem filter_miss {f : Tm → Bool} {l : List Tm} {i : Nat} {x : Tm} (hi : i < l.length) (hx : l[i]?.getD (0, 0) = x) (h : f x = false) : (l.take (i + 1)).filter f = (l.take i).filter f := by
  rw [take_snoc hi hx, List.filter_append]; simp [h]
set_option maxRecDepth 100000 in
set_option maxHeartbeats 4000000 in
theorem refPut_yes (A : Option Addr) (cap : Nat) (ts : List Tm) (t v win : Int) (m : Bool) (w : World) (hT : TimsAt w A ts) (n : Nat) (hn : ts.length = n) (hr : n * 16 ≤ 140737488351232) (hP : putB m ts t v win = true) :
    Calls Tryd.prog 63 #[.slice A n cap, .int .i64 t, .int .i64 v, .int .i64 win, .bool m] w fun e w' => ∃ va vc, e = .returned (.tuple #[.slice va (putL m ts t v win).length vc, .int .i64 0]) ∧ RowT w' w.heap.size va (putL m ts t v win).length vc (putL m ts t v win) ∧ Below w.heap.size w w' := by
  have HE : Hid (_ ∧ _) := putE_yes hP
  obtain ⟨hc, he, ht, ha⟩ := putB_iff.1 hP
  simp only [entB, Bool.and_eq_true] at he
  have cC := refCheck_any A cap ts m w hT n hn 0 (by simp [errI, hc])
  have cV := fun u : World => refValue_is v u true he.2
  have cT1 := fun u : World => refTime_is t u true he.1
  have cT2 := fun u : World => refTime_is win u true ht
  have hwin := timeB_iff.1 ht
  have HT : Hid (TimsAt w A ts) := hT
  have HC : Hid (chk m none ts = true) := hc
  have HN : Hid (ts.length = n) := hn
  have hml : ts.length ≤ 9223372036854775807 := hT.1
  rw [hn] at hml
  have HA : Hid (∀ k, n = k + 1 → ∃ b o y, A = some ⟨b, o, none⟩ ∧ w.cell? ⟨b, o + k * 2, none⟩ = some (.int .i64 y) ∧ y < t) := fun k hk => by
    obtain ⟨b, o, e, h1, _⟩ := hT.2 k (by omega)
    refine ⟨b, o, _, e, h1, ?_⟩
    refine (above_iff hc).1 ha _ ?_
    have : k < ts.length := by omega
    rw [List.getElem?_eq_getElem this]
    exact List.getElem_mem this
  clear hP hc he ht ha hT hn
  go_enter Tryd.func63, Tryd.ntmps63
  go_upto_region 1 with fail
  go_cut [50] (fun u wx => u = .bool false ∧ Hid (Below w.heap.size w wx))
  case first =>
    go_wp2_with fail
    refine cC.mono ?_
    rintro e w1 ⟨rfl, hB1⟩
    have HB1 : Hid (Below w.heap.size w w1) := hB1
    clear cC hB1
    go_wp2_with fail
    refine (cT1 _).mono ?_
    rintro e w2 ⟨rfl, rfl⟩
    go_wp2_with fail
    refine (cV _).mono ?_
    rintro e w2 ⟨rfl, rfl⟩
    go_wp2_with fail
    refine (cT2 _).mono ?_
    rintro e w2 ⟨rfl, rfl⟩
    clear cT1 cT2 cV
    rcases Nat.eq_zero_or_pos n with h0 | h0
    · subst h0
      go_wp2_with fail
      go_meet
      exact ⟨rfl, HB1.out⟩
    · obtain ⟨k, hk⟩ : ∃ k, n = k + 1 := ⟨n - 1, by omega⟩
      obtain ⟨b, o, y, rfl, hc0, hy⟩ := HA.out k hk
      have hw0 : w2.cell? ⟨b, o + k * 2, none⟩ = some (.int .i64 y) := (HB1.out.cell (p := ⟨b, o + k * 2, none⟩) (lt_of_cell hc0)).trans hc0
      have hn0 : (0 : Int) < (n : Int) := by omega
      have hs : IntKind.i64.wrap ((n : Int) - 1) = (k : Int) := by rw [IntKind.wrap_i64]; omega
      have hkn : (k : Int) < (n : Int) := by omega
      have hyt : decide (t ≤ y) = false := by simp; omega
      clear hk hc0 hy
      go_wp2_with fail
      go_meet
      exact ⟨rfl, HB1.out⟩
  case rest =>
    obtain ⟨rfl, HB1⟩ := hcut
    clear cC cT1 cT2 cV HA
    go_wp2_with fail
    go_loopw [12, 13] (fun u vi wr => ∃ (i L : Nat) (va : Option Addr) (vc : Nat), vi = .int .i64 i ∧ u = .slice va L vc ∧ i ≤ n ∧ L ≤ i ∧ Hid (((ts.take i).filter (stayB m t v win)).length = L) ∧ Hid (RowT wr w.heap.size va L vc ((ts.take i).filter (stayB m t v win))) ∧ Hid (Below w.heap.size w wr))
      (fun _ vi _ => n - (intOf vi).toNat)
    case atStart => exact ⟨0, 0, none, 0, rfl, rfl, Nat.zero_le _, Nat.le_refl _, by simp [Hid], RowT.nil _ _, HB1.out⟩
    case round =>
      obtain ⟨i, L, va, vc, rfl, rfl, hin, hLi, HL, HR, HB⟩ := hrel
      by_cases hlt : i < n
      · have hi' : i < ts.length := by have := HN.out; omega
        obtain ⟨b, o, rfl, hc0, hc1⟩ := HT.out.2 i hi'
        obtain ⟨x, hx⟩ : ∃ x, ts[i]?.getD (0, 0) = x := ⟨_, rfl⟩
        rw [hx] at hc0 hc1
        have hw0 : wr.cell? ⟨b, o + i * 2, none⟩ = some (.int .i64 x.1) := (HB.out.cell (p := ⟨b, o + i * 2, none⟩) (lt_of_cell hc0)).trans hc0
        have hw1 : wr.cell? ⟨b, o + i * 2 + 1, none⟩ = some (.int .i64 x.2) := (HB.out.cell (p := ⟨b, o + i * 2 + 1, none⟩) (lt_of_cell hc1)).trans hc1
        have hgx : ts[i]? = some x := by rw [← hx, List.getElem?_eq_getElem hi']; rfl
        have hxe := entB_iff.1 (((chk_iff m ts none).1 HC.out).1 x (List.mem_of_getElem? hgx))
        have hs := HB.out.size
        have hlt' : (i : Int) < (n : Int) := by omega
        have hsw : IntKind.i64.wrap (x.1 + win) = x.1 + win := by rw [IntKind.wrap_i64]; omega
        have HST := stay_iff m t v win x
        by_cases ho : x.1 + win < t
        · have HX : Hid ((ts.take (i + 1)).filter (stayB m t v win) = (ts.take i).filter (stayB m t v win)) := filter_miss hi' hx (by rw [HST]; simp [ho])
          clear HST hx hc0 hc1 hi' hgx hxe
          have hcs : (m = true ∧ x.2 ≤ v) ∨ (m = true ∧ ¬ x.2 ≤ v) ∨ (m = false ∧ v ≤ x.2) ∨ (m = false ∧ ¬ v ≤ x.2) := by
            cases m <;> simp <;> omega
          rcases hcs with ⟨rfl, hv⟩ | ⟨rfl, hv⟩ | ⟨rfl, hv⟩ | ⟨rfl, hv⟩
          all_goals (
            go_wp2_with fail
            go_roundw
            case rel => exact ⟨i + 1, L, va, vc, by go_num, rfl, by omega, by omega, by unfold Hid; rw [HX.out]; exact HL.out, by unfold Hid; rw [HX.out]; exact HR.out, HB.out⟩
            case measure => simp [intOf]; omega)
        · by_cases hbt : beatB x.2 v m = true
          · have HX : Hid ((ts.take (i + 1)).filter (stayB m t v win) = (ts.take i).filter (stayB m t v win) ++ [x]) := filter_hit hi' hx (by rw [HST]; simp [ho, hbt])
            obtain ⟨va1, vc1, w1', r1, R1, g1⟩ := app_row (wr.alloc (.cells #[.int .i64 x.1, .int .i64 x.2] 61)) w.heap.size va L vc _ (HR.out.alloc _) (by simp; omega) (some ⟨wr.heap.size, 0, none⟩) 1 [x] (tims_one wr x) (fun h => by cases h) (by simp; omega)
            have HB' : Hid (Below w.heap.size w w1') := below_append (HB.out.alloc hs _) (by simp; omega) (HR.out.alloc _) g1
            have A1 : Hid ((Builtin.append_ #[24, 24] 24 #[.slice va L vc, .slice (some ⟨wr.heap.size, 0, none⟩) 1 1]).run Tryd.prog (wr.alloc (.cells #[.int .i64 x.1, .int .i64 x.2] 61)) = .ok (.slice va1 (L + 1) vc1) w1') := r1
            have HR1 : Hid (RowT w1' w.heap.size va1 (L + 1) vc1 ((ts.take i).filter (stayB m t v win) ++ [x])) := R1
            have hbt2 : (m = true ∧ decide (x.2 ≤ v) = false) ∨ (m = false ∧ decide (v ≤ x.2) = false) := by
              cases m
              · exact .inr ⟨rfl, by rw [beat_false] at hbt; simp; omega⟩
              · exact .inl ⟨rfl, by rw [beat_true] at hbt; simp; omega⟩
            clear HST hx hc0 hc1 hi' hgx hxe hbt r1 R1 g1
            rcases hbt2 with ⟨rfl, hv⟩ | ⟨rfl, hv⟩
            all_goals (
              go_wp2_with (at_builtin; refine Lib.wpList_append_run _ rfl (.tmp 95) (.tmp 100) 24 24 rfl (.slice va L vc) (.slice (some ⟨wr.heap.size, 0, none⟩) 1 1) rfl rfl (.slice va1 (L + 1) vc1) w1' A1.out ?_)
              go_roundw
              case rel => exact ⟨i + 1, L + 1, va1, vc1, by go_num, rfl, by omega, by omega, by unfold Hid; rw [HX.out, List.length_append, HL.out]; rfl, by unfold Hid; rw [HX.out]; exact HR1.out, HB'.out⟩
              case measure => simp [intOf]; omega)
          · have HX : Hid ((ts.take (i + 1)).filter (stayB m t v win) = (ts.take i).filter (stayB m t v win)) := filter_miss hi' hx (by rw [HST]; simp [hbt])
            have hbt2 : (m = true ∧ decide (x.2 ≤ v) = true) ∨ (m = false ∧ decide (v ≤ x.2) = true) := by
              cases m
              · exact .inr ⟨rfl, by rw [beat_false] at hbt; simp; omega⟩
              · exact .inl ⟨rfl, by rw [beat_true] at hbt; simp; omega⟩
            clear HST hx hc0 hc1 hi' hgx hxe hbt
            rcases hbt2 with ⟨rfl, hv⟩ | ⟨rfl, hv⟩
            all_goals (
              go_wp2_with fail
              go_roundw
              case rel => exact ⟨i + 1, L, va, vc, by go_num, rfl, by omega, by omega, by unfold Hid; rw [HX.out]; exact HL.out, by unfold Hid; rw [HX.out]; exact HR.out, HB.out⟩
              case measure => simp [intOf]; omega)
      · obtain rfl : i = n := by omega
        have hall : ts.take i = ts := by rw [← HN.out]; exact List.take_length
        rw [hall] at HL HR
        have hs := HB.out.size
        obtain ⟨va1, vc1, w1', r1, R1, g1⟩ := app_row (wr.alloc (.cells #[.int .i64 t, .int .i64 v] 61)) w.heap.size va L vc _ (HR.out.alloc _) (by simp; omega) (some ⟨wr.heap.size, 0, none⟩) 1 [(t, v)] (tims_one wr (t, v)) (fun h => by cases h) (by simp; omega)
        have HB' : Hid (Below w.heap.size w w1') := below_append (HB.out.alloc hs _) (by simp; omega) (HR.out.alloc _) g1
        have A1 : Hid ((Builtin.append_ #[24, 24] 24 #[.slice va L vc, .slice (some ⟨wr.heap.size, 0, none⟩) 1 1]).run Tryd.prog (wr.alloc (.cells #[.int .i64 t, .int .i64 v] 61)) = .ok (.slice va1 (L + 1) vc1) w1') := r1
        have HR1 : Hid (RowT w1' w.heap.size va1 (L + 1) vc1 (ts.filter (stayB m t v win) ++ [(t, v)])) := R1
        clear r1 R1 g1 hall
        go_wp2_with (at_builtin; refine Lib.wpList_append_run _ rfl (.tmp 102) (.tmp 106) 24 24 rfl (.slice va L vc) (.slice (some ⟨wr.heap.size, 0, none⟩) 1 1) rfl rfl (.slice va1 (L + 1) vc1) w1' A1.out ?_)
        go_ret2
        have hlen : (putL m ts t v win).length = L + 1 := by rw [HE.out.2, List.length_append, HL.out]; rfl
        refine ⟨va1, vc1, by rw [hlen]; rfl, ?_, HB'.out⟩
        rw [hlen, HE.out.2]
        exact HR1.out
set_option maxRecDepth 100000 in
set_option maxHeartbeats 4000000 in
theorem refPut_no (A : Option Addr) (cap : Nat) (ts : List Tm) (t v win : Int) (m : Bool) (w : World) (hT : TimsAt w A ts) (n : Nat) (hn : ts.length = n) (hP : putB m ts t v win = false) :
    Calls Tryd.prog 63 #[.slice A n cap, .int .i64 t, .int .i64 v, .int .i64 win, .bool m] w fun e w' => e = .returned (.tuple #[.slice none 0 0, .int .i64 2]) ∧ Below w.heap.size w w' := by
  cases hc : chk m none ts with
  | false =>
    have cC := refCheck_any A cap ts m w hT n hn 2 (by simp [errI, hc])
    clear hP hc hT hn
    go_enter Tryd.func63, Tryd.ntmps63
    go_wp2_with fail
    refine cC.mono ?_
    rintro e w1 ⟨rfl, hB1⟩
    clear cC
    go_wp2_with fail
    go_ret2
    exact ⟨rfl, hB1⟩
  | true =>
    have cC := refCheck_any A cap ts m w hT n hn 0 (by simp [errI, hc])
    obtain ⟨bt, ht⟩ : ∃ bt, timeB t = bt := ⟨_, rfl⟩
    obtain ⟨bv, hv⟩ : ∃ bv, valB v = bv := ⟨_, rfl⟩
    obtain ⟨bw, hw⟩ : ∃ bw, timeB win = bw := ⟨_, rfl⟩
    have cT1 := fun u : World => refTime_is t u bt ht
    have cV := fun u : World => refValue_is v u bv hv
    have cT2 := fun u : World => refTime_is win u bw hw
    have HA : Hid (bt = true → bv = true → bw = true → ∃ k b o y, n = k + 1 ∧ k < 9223372036854775807 ∧ A = some ⟨b, o, none⟩ ∧ w.cell? ⟨b, o + k * 2, none⟩ = some (.int .i64 y) ∧ t ≤ y) := fun e1 e2 e3 => by
      subst e1; subst e2; subst e3
      have ha : above ts t = false := by
        unfold putB entB at hP
        rw [hc, ht, hv, hw] at hP
        simpa using hP
      have hm : ts.length ≤ 9223372036854775807 := hT.1
      rcases Nat.eq_zero_or_pos n with h0 | h0
      · rw [h0] at hn
        obtain rfl := List.eq_nil_of_length_eq_zero hn
        simp [above, lastE] at ha
      · obtain ⟨k, hk⟩ : ∃ k, n = k + 1 := ⟨n - 1, by omega⟩
        obtain ⟨b, o, e, h1, _⟩ := hT.2 k (by omega)
        refine ⟨k, b, o, _, hk, by omega, e, h1, ?_⟩
        rw [above_end (last_at (n := k) (by omega))] at ha
        simpa using ha
    clear hP hc hT hn ht hv hw
    go_enter Tryd.func63, Tryd.ntmps63
    go_wp2_with fail
    refine cC.mono ?_
    rintro e w1 ⟨rfl, hB1⟩
    have HB1 : Hid (Below w.heap.size w w1) := hB1
    clear cC hB1
    go_wp2_with fail
    refine (cT1 _).mono ?_
    rintro e w2 ⟨rfl, rfl⟩
    clear cT1
    cases bt with
    | false =>
      go_wp2_with fail
      go_ret2
      exact ⟨rfl, HB1.out⟩
    | true =>
      go_wp2_with fail
      refine (cV _).mono ?_
      rintro e w2 ⟨rfl, rfl⟩
      clear cV
      cases bv with
      | false =>
        go_wp2_with fail
        go_ret2
        exact ⟨rfl, HB1.out⟩
      | true =>
        go_wp2_with fail
        refine (cT2 _).mono ?_
        rintro e w2 ⟨rfl, rfl⟩
        clear cT2
        cases bw with
        | false =>
          go_wp2_with fail
          go_ret2
          exact ⟨rfl, HB1.out⟩
        | true =>
          obtain ⟨k, b, o, y, hk, hkm, rfl, hc0, hy⟩ := HA.out (by simp) (by simp) (by simp)
          have hw0 : w2.cell? ⟨b, o + k * 2, none⟩ = some (.int .i64 y) := (HB1.out.cell (p := ⟨b, o + k * 2, none⟩) (lt_of_cell hc0)).trans hc0
          have hn0 : (0 : Int) < (n : Int) := by omega
          have hs : IntKind.i64.wrap ((n : Int) - 1) = (k : Int) := by rw [IntKind.wrap_i64]; omega
          have hkn : (k : Int) < (n : Int) := by omega
          have hyt : decide (t ≤ y) = true := by simpa using hy
          clear hk hc0 hy HA
          go_wp2_with fail
          go_ret2
          exact ⟨rfl, HB1.out⟩
theorem refPut_any (A : Option Addr) (cap : Nat) (ts : List Tm) (t v win : Int) (m : Bool) (w : World) (hT : TimsAt w A ts) (n : Nat) (hn : ts.length = n) (hr : n * 16 ≤ 140737488351232) :
    Calls Tryd.prog 63 #[.slice A n cap, .int .i64 t, .int .i64 v, .int .i64 win, .bool m] w fun e w' => ∃ va vc, e = .returned (.tuple #[.slice va (putL m ts t v win).length vc, .int .i64 (putE m ts t v win)]) ∧ RowT w' w.heap.size va (putL m ts t v win).length vc (putL m ts t v win) ∧ Below w.heap.size w w' := by
  cases hP : putB m ts t v win with
  | true => rw [(putE_yes hP).1]; exact refPut_yes A cap ts t v win m w hT n hn hr hP
  | false =>
    obtain ⟨e1, e2⟩ := putE_no hP
    rw [e1, e2]
    refine (refPut_no A cap ts t v win m w hT n hn hP).mono ?_
    rintro e w' ⟨rfl, hB⟩
    exact ⟨none, 0, rfl, RowT.nil _ _, hB⟩
end Go.Proofs.YtagmighcofllhaaDoor.Fil

/- The contract of heads; the calls as laws take them. -/
namespace Go.Proofs.YtagmighcofllhaaDoor.Fil
open Go.ChangeShapes Go.WideShapes Go.ChangeAt Go.RowKit Go.Shelf
set_option linter.unusedVariables false
set_option linter.unusedSimpArgs false

theorem put_is (A : Option Addr) (cap : Nat) (ts : List Tm) (t v win : Int) (m : Bool) (w : World) (hT : TimsAt w A ts) (n : Nat) (hn : ts.length = n) (hcap : n ≤ cap) (hr : n * 16 ≤ 140737488351232) (S : List Tm) (hS : putL m ts t v win = S) (k : Nat) (hk : S.length = k) (q : Int) (hq : putE m ts t v win = q) :
    Calls Tryd.prog 59 #[.slice A n cap, .int .i64 t, .int .i64 v, .int .i64 win, .bool m] w fun e w' => ∃ va vc, e = .returned (.tuple #[.slice va k vc, .int .i64 q]) ∧ RowT w' w.heap.size va k vc S ∧ Below w.heap.size w w' := by
  subst hn; subst hS; subst hk; subst hq
  exact put_any A cap ts t v win m w hT hcap hr
theorem refPut_is (A : Option Addr) (cap : Nat) (ts : List Tm) (t v win : Int) (m : Bool) (w : World) (hT : TimsAt w A ts) (n : Nat) (hn : ts.length = n) (hr : n * 16 ≤ 140737488351232) (S : List Tm) (hS : putL m ts t v win = S) (k : Nat) (hk : S.length = k) (q : Int) (hq : putE m ts t v win = q) :
    Calls Tryd.prog 63 #[.slice A n cap, .int .i64 t, .int .i64 v, .int .i64 win, .bool m] w fun e w' => ∃ va vc, e = .returned (.tuple #[.slice va k vc, .int .i64 q]) ∧ RowT w' w.heap.size va k vc S ∧ Below w.heap.size w w' := by
  subst hS; subst hk; subst hq
  exact refPut_any A cap ts t v win m w hT n hn hr
theorem check_is (A : Option Addr) (cap : Nat) (ts : List Tm) (m : Bool) (w : World) (hT : TimsAt w A ts) (n : Nat) (hn : ts.length = n) (q : Int) (hq : errI m ts = q) :
    Calls Tryd.prog 68 #[.slice A n cap, .bool m] w fun e w' => e = .returned (.int .i64 q) ∧ Below w.heap.size w w' := by
  subst hn; subst hq
  exact check_any A cap ts m w hT
theorem best_is (a : Option Addr) (c : Nat) (l : List Tm) (w : World) (hT : TimsAt w a l) (n : Nat) (hn : l.length = n) (q : Int) (hq : bestV l = q) (z : Bool) (hz : bestB l = z) : Calls Tryd.prog 73 #[.slice a n c] w fun e w' => e = .returned (.tuple #[.int .i64 q, .bool z]) ∧ w' = w := by
  subst hn; subst hq; subst hz
  exact best_walk a c l w hT
theorem refBest_is (a : Option Addr) (c : Nat) (l : List Tm) (w : World) (hT : TimsAt w a l) (n : Nat) (hn : l.length = n) (q : Int) (hq : bestV l = q) (z : Bool) (hz : bestB l = z) : Calls Tryd.prog 66 #[.slice a n c] w fun e w' => e = .returned (.tuple #[.int .i64 q, .bool z]) ∧ w' = w := by
  subst hn; subst hq; subst hz
  exact refBest_walk a c l w hT
theorem tims_two (w : World) (x y : Tm) : TimsAt (w.alloc (.cells #[.int .i64 x.1, .int .i64 x.2, .int .i64 y.1, .int .i64 y.2] 61)) (some ⟨w.heap.size, 0, none⟩) [x, y] := by
  refine ⟨by simp [maxLen], fun j hj => ⟨_, _, rfl, ?_⟩⟩
  have h1 := World.cell?_alloc_at (w := w) #[.int .i64 x.1, .int .i64 x.2, .int .i64 y.1, .int .i64 y.2] 61 w.heap.size
  match j, hj with
  | 0, _ => exact ⟨(h1 0 rfl), (h1 1 rfl)⟩
  | 1, _ => exact ⟨(h1 2 rfl), (h1 3 rfl)⟩
  | j + 2, h => simp at h; omega
end Go.Proofs.YtagmighcofllhaaDoor.Fil
