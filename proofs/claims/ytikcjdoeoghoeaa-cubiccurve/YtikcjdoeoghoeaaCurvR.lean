/- CubicCurve: the regions that draw. -/
import Derived.Test.YtikcjdoeoghoeaaDets
namespace Go.Proofs.Ytikcjdoeoghoeaa
open Go.ChangeShapes Go.WideShapes Go.ChangeAt Go.RowKit
set_option linter.unusedVariables false

theorem enter13 (args : Array Value) (w : World) : (callFunc 13 args).run Try.prog w = .ok (.enter 13 args) w := by kernel_rfl
theorem enter15 (args : Array Value) (w : World) : (callFunc 15 args).run Try.prog w = .ok (.enter 15 args) w := by kernel_rfl
def cl3O0 (ps : String) : Oper := { dst := some 29, op := .load 26 (.tmp 3), type := 26, pos := ps, after := #[], guard := none }
def cl3O1 (ps : String) : Oper := { dst := some 30, op := .move (.tmp 1), type := 3, pos := ps, after := #[], guard := none }
def cl3O2 (ps : String) : Oper := { dst := some 31, op := .call { callee := .value (.func 13), args := #[.tmp 29, .tmp 30], argTypes := #[26, 3] }, type := 3, pos := ps, after := #[{ on := 0, ground := .data }, { on := 1, ground := .data }], guard := none }
def cl3O3 (ps : String) : Oper := { dst := some 32, op := .load 26 (.tmp 3), type := 26, pos := ps, after := #[], guard := none }
def cl3O4 (ps : String) : Oper := { dst := some 33, op := .move (.tmp 1), type := 3, pos := ps, after := #[], guard := none }
def cl3O5 (ps : String) : Oper := { dst := some 34, op := .move (.tmp 2), type := 3, pos := ps, after := #[], guard := none }
def cl3O6 (ps : String) : Oper := { dst := some 35, op := .binOp .add 3 (.tmp 33) (.tmp 34) 3, type := 3, pos := ps, after := #[{ on := 4, ground := .data }, { on := 5, ground := .data }], guard := none }
def cl3O7 (ps : String) : Oper := { dst := some 36, op := .call { callee := .value (.func 13), args := #[.tmp 32, .tmp 35], argTypes := #[26, 3] }, type := 3, pos := ps, after := #[{ on := 3, ground := .data }, { on := 6, ground := .data }, { on := 2, ground := .chain }], guard := none }
def cl3O8 (ps : String) : Oper := { dst := some 7, op := .assign (.tmp 31), type := 3, pos := ps, after := #[{ on := 2, ground := .data }, { on := 7, ground := .chain }, { on := 0, ground := .phase }, { on := 1, ground := .phase }, { on := 2, ground := .phase }, { on := 3, ground := .textOnly .lateStores }, { on := 4, ground := .textOnly .lateStores }, { on := 5, ground := .textOnly .lateStores }, { on := 6, ground := .textOnly .lateStores }, { on := 7, ground := .textOnly .lateStoresUnsure }], guard := none }
def cl3O9 (ps : String) : Oper := { dst := some 8, op := .assign (.tmp 36), type := 3, pos := ps, after := #[{ on := 7, ground := .data }, { on := 8, ground := .chain }, { on := 0, ground := .phase }, { on := 1, ground := .phase }, { on := 2, ground := .phase }, { on := 3, ground := .phase }, { on := 4, ground := .phase }, { on := 5, ground := .phase }, { on := 6, ground := .phase }, { on := 7, ground := .phase }, { on := 8, ground := .phase }], guard := none }
def cl3 (ps : String) : Array Oper := #[cl3O0 ps, cl3O1 ps, cl3O2 ps, cl3O3 ps, cl3O4 ps, cl3O5 ps, cl3O6 ps, cl3O7 ps, cl3O8 ps, cl3O9 ps]
theorem cl3_0 (ps : String) : (cl3 ps)[0]? = some (cl3O0 ps) := rfl
theorem cl3_1 (ps : String) : (cl3 ps)[1]? = some (cl3O1 ps) := rfl
theorem cl3_2 (ps : String) : (cl3 ps)[2]? = some (cl3O2 ps) := rfl
theorem cl3_3 (ps : String) : (cl3 ps)[3]? = some (cl3O3 ps) := rfl
theorem cl3_4 (ps : String) : (cl3 ps)[4]? = some (cl3O4 ps) := rfl
theorem cl3_5 (ps : String) : (cl3 ps)[5]? = some (cl3O5 ps) := rfl
theorem cl3_6 (ps : String) : (cl3 ps)[6]? = some (cl3O6 ps) := rfl
theorem cl3_7 (ps : String) : (cl3 ps)[7]? = some (cl3O7 ps) := rfl
theorem cl3_8 (ps : String) : (cl3 ps)[8]? = some (cl3O8 ps) := rfl
theorem cl3_9 (ps : String) : (cl3 ps)[9]? = some (cl3O9 ps) := rfl
def cl3D : Nat → Option Tmp
  | 0 => some 29
  | 1 => some 30
  | 2 => some 31
  | 3 => some 32
  | 4 => some 33
  | 5 => some 34
  | 6 => some 35
  | 7 => some 36
  | 8 => some 7
  | 9 => some 8
  | _ => none
def cl3T (c : Cc) (p : Nat) (t mo x y : Int) : Nat → Value
  | 0 => ccv c
  | 1 => .int .i64 t
  | 2 => .int .i64 x
  | 3 => ccv c
  | 4 => .int .i64 t
  | 5 => .int .i64 mo
  | 6 => .int .i64 (t + mo)
  | 7 => .int .i64 y
  | 8 => .int .i64 x
  | 9 => .int .i64 y
  | _ => undef
set_option maxRecDepth 100000 in
set_option maxHeartbeats 4000000 in
theorem cl3_reg {ps : String} {Q : Exit → Act → World → Prop} {a0 : Act} {W0 : World} (sz : a0.tmps.size = 60) (c : Cc) (p : Nat) (t mo x y : Int)
    (e3 : a0.eval (.tmp 3) = .pointer (some ⟨p, 0, none⟩)) (e1 : a0.eval (.tmp 1) = .int .i64 t) (e2 : a0.eval (.tmp 2) = .int .i64 mo)
    (hb0 : Box W0 p 26 (ccL c)) (hw : IntKind.i64.wrap (t + mo) = t + mo) (c1 : ∀ W, Calls Try.prog 13 #[ccv c, .int .i64 t] W fun e w' => e = .returned (.int .i64 x) ∧ Below W.heap.size W w')(c2 : ∀ W, Calls Try.prog 13 #[ccv c, .int .i64 (t + mo)] W fun e w' => e = .returned (.int .i64 y) ∧ Below W.heap.size W w')
    (hfin : ∀ (T : Nat → Value) w, T 8 = .int .i64 x → T 9 = .int .i64 y → Box w p 26 (ccL c) ∧ Below W0.heap.size W0 w → Q .normal ((((((((((a0.put (some 29) (T 0)).put (some 30) (T 1)).put (some 31) (T 2)).put (some 32) (T 3)).put (some 33) (T 4)).put (some 34) (T 5)).put (some 35) (T 6)).put (some 36) (T 7)).put (some 7) (T 8)).put (some 8) (T 9)) w) :
    (Code.region 3 (cl3 ps) true).wp Try.prog Q a0 W0 := by
  refine wp_region_dets (by kernel_rfl) 10 rfl cl3D ?_ (by decide) (cl3T c p t mo x y) (fun D w => Box w p 26 (ccL c) ∧ Below W0.heap.size W0 w) (fun D _ => ⟨hb0.drew, Below.drew (Below.refl _ _)⟩) ?_ (by rfl) (fun w D _ hSw => hfin (cl3T c p t mo x y) w rfl rfl hSw)
  · intro jq t hj ht
    have : ∀ j, j < 10 → (cl3D j).all (· < 60) = true := by decide
    have := this jq hj
    rw [ht] at this
    rw [sz]
    simpa using this
  · intro iq o ho D a w hSw hDi hcl hs hel K hK
    have hin : iq < 10 := (Array.getElem?_eq_some_iff.1 ho).1
    match iq, hin, ho with
    | 0, _, ho =>
      obtain rfl := Option.some.inj (ho.symm.trans (cl3_0 ps))
      have u3 : a.eval (.tmp 3) = .pointer (some ⟨p, 0, none⟩) := (hel 3 (by decide)).trans e3
      exact op_valW (cl3_0 ps) rfl (v := ccv c) (run_loadC isC26 rfl u3 hSw.1) (hK w (fun D' _ _ => hSw))
    | 1, _, ho =>
      obtain rfl := Option.some.inj (ho.symm.trans (cl3_1 ps))
      have u1 : a.eval (.tmp 1) = .int .i64 t := (hel 1 (by decide)).trans e1
      exact op_valW (cl3_1 ps) rfl (v := .int .i64 t) (by unfold cl3O1 execOp; simp only [u1]; first | (go_simp; done) | (go_simp; with_reducible rfl)) (hK w (fun D' _ _ => hSw))
    | 2, _, ho =>
      obtain rfl := Option.some.inj (ho.symm.trans (cl3_2 ps))
      have s0 : a.eval (.tmp 29) = ccv c := hs 0 29 (by rfl) rfl
      have s1 : a.eval (.tmp 30) = .int .i64 t := hs 1 30 (by rfl) rfl
      exact op_enterW (cl3_2 ps) rfl (f := 13) (args := #[ccv c, .int .i64 t]) (by rw [run_call rfl enter13]; simp only [List.map_toArray, List.map_cons, List.map_nil, s0, s1]; try rfl) ((c1 w).mono (fun e w' hh => ⟨_, hh.1, hK w' (fun D' _ _ => ⟨hSw.1.later hh.2, Below.on hSw.2 hh.2⟩)⟩))
    | 3, _, ho =>
      obtain rfl := Option.some.inj (ho.symm.trans (cl3_3 ps))
      have u3 : a.eval (.tmp 3) = .pointer (some ⟨p, 0, none⟩) := (hel 3 (by decide)).trans e3
      exact op_valW (cl3_3 ps) rfl (v := ccv c) (run_loadC isC26 rfl u3 hSw.1) (hK w (fun D' _ _ => hSw))
    | 4, _, ho =>
      obtain rfl := Option.some.inj (ho.symm.trans (cl3_4 ps))
      have u1 : a.eval (.tmp 1) = .int .i64 t := (hel 1 (by decide)).trans e1
      exact op_valW (cl3_4 ps) rfl (v := .int .i64 t) (by unfold cl3O4 execOp; simp only [u1]; first | (go_simp; done) | (go_simp; with_reducible rfl)) (hK w (fun D' _ _ => hSw))
    | 5, _, ho =>
      obtain rfl := Option.some.inj (ho.symm.trans (cl3_5 ps))
      have u2 : a.eval (.tmp 2) = .int .i64 mo := (hel 2 (by decide)).trans e2
      exact op_valW (cl3_5 ps) rfl (v := .int .i64 mo) (by unfold cl3O5 execOp; simp only [u2]; first | (go_simp; done) | (go_simp; with_reducible rfl)) (hK w (fun D' _ _ => hSw))
    | 6, _, ho =>
      obtain rfl := Option.some.inj (ho.symm.trans (cl3_6 ps))
      have s4 : a.eval (.tmp 33) = .int .i64 t := hs 4 33 (by rfl) rfl
      have s5 : a.eval (.tmp 34) = .int .i64 mo := hs 5 34 (by rfl) rfl
      have hcl : IntKind.i64.wrap (t + mo) = t + mo := hw
      exact op_valW (cl3_6 ps) rfl (v := .int .i64 (t + mo)) (by unfold cl3O6 execOp; simp only [s4, s5]; first | (go_simp; done) | (go_simp; with_reducible rfl)) (hK w (fun D' _ _ => hSw))
    | 7, _, ho =>
      obtain rfl := Option.some.inj (ho.symm.trans (cl3_7 ps))
      have s3 : a.eval (.tmp 32) = ccv c := hs 3 32 (by rfl) rfl
      have s6 : a.eval (.tmp 35) = .int .i64 (t + mo) := hs 6 35 (by rfl) rfl
      exact op_enterW (cl3_7 ps) rfl (f := 13) (args := #[ccv c, .int .i64 (t + mo)]) (by rw [run_call rfl enter13]; simp only [List.map_toArray, List.map_cons, List.map_nil, s3, s6]; try rfl) ((c2 w).mono (fun e w' hh => ⟨_, hh.1, hK w' (fun D' _ _ => ⟨hSw.1.later hh.2, Below.on hSw.2 hh.2⟩)⟩))
    | 8, _, ho =>
      obtain rfl := Option.some.inj (ho.symm.trans (cl3_8 ps))
      have s2 : a.eval (.tmp 31) = .int .i64 x := hs 2 31 (by rfl) rfl
      exact op_valW (cl3_8 ps) rfl (v := .int .i64 x) (by unfold cl3O8 execOp; simp only [s2]; first | (go_simp; done) | (go_simp; with_reducible rfl)) (hK w (fun D' _ _ => hSw))
    | 9, _, ho =>
      obtain rfl := Option.some.inj (ho.symm.trans (cl3_9 ps))
      have s7 : a.eval (.tmp 36) = .int .i64 y := hs 7 36 (by rfl) rfl
      exact op_valW (cl3_9 ps) rfl (v := .int .i64 y) (by unfold cl3O9 execOp; simp only [s7]; first | (go_simp; done) | (go_simp; with_reducible rfl)) (hK w (fun D' _ _ => hSw))
    | iq + 10, hin, _ => exact absurd hin (by omega)
def cl4O0 (ps : String) : Oper := { dst := some 37, op := .move (.tmp 7), type := 3, pos := ps, after := #[], guard := none }
def cl4O1 (ps : String) : Oper := { dst := some 38, op := .move (.tmp 8), type := 3, pos := ps, after := #[], guard := none }
def cl4O2 (ps : String) : Oper := { dst := some 39, op := .binOp .leq 3 (.tmp 37) (.tmp 38) 3, type := 4, pos := ps, after := #[{ on := 0, ground := .data }, { on := 1, ground := .data }], guard := none }
def cl4O3 (ps : String) : Oper := { dst := some 40, op := .move (.tmp 39), type := 4, pos := ps, after := #[{ on := 2, ground := .data }], guard := none }
def cl4O4 (ps : String) : Oper := { dst := some 41, op := .move (.tmp 7), type := 3, pos := ps, after := #[{ on := 3, ground := .guard }], guard := some (3, true) }
def cl4O5 (ps : String) : Oper := { dst := some 42, op := .binOp .geq 3 (.tmp 41) (.const (.int .i64 0)) 3, type := 4, pos := ps, after := #[{ on := 4, ground := .data }, { on := 3, ground := .guard }], guard := some (3, true) }
def cl4O6 (ps : String) : Oper := { dst := some 43, op := .pick (.tmp 40) (.tmp 42) (.const (.bool false)), type := 4, pos := ps, after := #[{ on := 3, ground := .data }, { on := 5, ground := .data }], guard := none }
def cl4O7 (ps : String) : Oper := { dst := some 44, op := .move (.tmp 43), type := 4, pos := ps, after := #[{ on := 6, ground := .data }, { on := 3, ground := .chain }], guard := none }
def cl4O8 (ps : String) : Oper := { dst := some 45, op := .move (.tmp 8), type := 3, pos := ps, after := #[{ on := 7, ground := .guard }], guard := some (7, true) }
def cl4O9 (ps : String) : Oper := { dst := some 46, op := .binOp .leq 3 (.tmp 45) (.const (.int .i64 1073741824)) 3, type := 4, pos := ps, after := #[{ on := 8, ground := .data }, { on := 7, ground := .guard }], guard := some (7, true) }
def cl4O10 (ps : String) : Oper := { dst := some 47, op := .pick (.tmp 44) (.tmp 46) (.const (.bool false)), type := 4, pos := ps, after := #[{ on := 7, ground := .data }, { on := 9, ground := .data }], guard := none }
def cl4O11 (ps : String) : Oper := { dst := some 48, op := .move (.tmp 47), type := 4, pos := ps, after := #[{ on := 10, ground := .data }, { on := 7, ground := .chain }], guard := none }
def cl4O12 (ps : String) : Oper := { dst := some 49, op := .load 26 (.tmp 3), type := 26, pos := ps, after := #[{ on := 11, ground := .guard }], guard := some (11, true) }
def cl4O13 (ps : String) : Oper := { dst := some 50, op := .fieldAddr 26 (.tmp 3) 7, type := 0, pos := ps, after := #[{ on := 11, ground := .guard }], guard := some (11, true) }
def cl4O14 (ps : String) : Oper := { dst := some 51, op := .load 3 (.tmp 50), type := 3, pos := ps, after := #[{ on := 13, ground := .data }, { on := 11, ground := .guard }], guard := some (11, true) }
def cl4O15 (ps : String) : Oper := { dst := some 52, op := .call { callee := .value (.func 13), args := #[.tmp 49, .tmp 51], argTypes := #[26, 3] }, type := 3, pos := ps, after := #[{ on := 12, ground := .data }, { on := 14, ground := .data }, { on := 11, ground := .chain }, { on := 11, ground := .guard }], guard := some (11, true) }
def cl4O16 (ps : String) : Oper := { dst := some 53, op := .fieldAddr 26 (.tmp 3) 5, type := 0, pos := ps, after := #[{ on := 11, ground := .guard }], guard := some (11, true) }
def cl4O17 (ps : String) : Oper := { dst := some 54, op := .load 3 (.tmp 53), type := 3, pos := ps, after := #[{ on := 16, ground := .data }, { on := 11, ground := .guard }], guard := some (11, true) }
def cl4O18 (ps : String) : Oper := { dst := some 55, op := .binOp .eql 3 (.tmp 52) (.tmp 54) 3, type := 4, pos := ps, after := #[{ on := 15, ground := .data }, { on := 17, ground := .data }, { on := 11, ground := .guard }], guard := some (11, true) }
def cl4O19 (ps : String) : Oper := { dst := some 56, op := .pick (.tmp 48) (.tmp 55) (.const (.bool false)), type := 4, pos := ps, after := #[{ on := 11, ground := .data }, { on := 18, ground := .data }], guard := none }
def cl4O20 (ps : String) : Oper := { dst := some 57, op := .move (.tmp 56), type := 4, pos := ps, after := #[{ on := 19, ground := .data }, { on := 15, ground := .chain }], guard := none }
def cl4O21 (ps : String) : Oper := { dst := some 58, op := .call { callee := .value (.func 15), args := #[], argTypes := #[] }, type := 4, pos := ps, after := #[{ on := 20, ground := .chain }, { on := 20, ground := .guard }], guard := some (20, true) }
def cl4O22 (ps : String) : Oper := { dst := some 59, op := .pick (.tmp 57) (.tmp 58) (.const (.bool false)), type := 4, pos := ps, after := #[{ on := 20, ground := .data }, { on := 21, ground := .data }], guard := none }
def cl4O23 (ps : String) : Oper := { dst := some 6, op := .assign (.tmp 59), type := 4, pos := ps, after := #[{ on := 22, ground := .data }, { on := 21, ground := .chain }, { on := 0, ground := .phase }, { on := 1, ground := .phase }, { on := 2, ground := .phase }, { on := 3, ground := .phase }, { on := 4, ground := .phase }, { on := 5, ground := .phase }, { on := 6, ground := .phase }, { on := 7, ground := .phase }, { on := 8, ground := .phase }, { on := 9, ground := .phase }, { on := 10, ground := .phase }, { on := 11, ground := .phase }, { on := 12, ground := .phase }, { on := 13, ground := .phase }, { on := 14, ground := .phase }, { on := 15, ground := .phase }, { on := 16, ground := .phase }, { on := 17, ground := .phase }, { on := 18, ground := .phase }, { on := 19, ground := .phase }, { on := 20, ground := .phase }, { on := 21, ground := .phase }, { on := 22, ground := .phase }], guard := none }
def cl4 (ps : String) : Array Oper := #[cl4O0 ps, cl4O1 ps, cl4O2 ps, cl4O3 ps, cl4O4 ps, cl4O5 ps, cl4O6 ps, cl4O7 ps, cl4O8 ps, cl4O9 ps, cl4O10 ps, cl4O11 ps, cl4O12 ps, cl4O13 ps, cl4O14 ps, cl4O15 ps, cl4O16 ps, cl4O17 ps, cl4O18 ps, cl4O19 ps, cl4O20 ps, cl4O21 ps, cl4O22 ps, cl4O23 ps]
theorem cl4_0 (ps : String) : (cl4 ps)[0]? = some (cl4O0 ps) := rfl
theorem cl4_1 (ps : String) : (cl4 ps)[1]? = some (cl4O1 ps) := rfl
theorem cl4_2 (ps : String) : (cl4 ps)[2]? = some (cl4O2 ps) := rfl
theorem cl4_3 (ps : String) : (cl4 ps)[3]? = some (cl4O3 ps) := rfl
theorem cl4_4 (ps : String) : (cl4 ps)[4]? = some (cl4O4 ps) := rfl
theorem cl4_5 (ps : String) : (cl4 ps)[5]? = some (cl4O5 ps) := rfl
theorem cl4_6 (ps : String) : (cl4 ps)[6]? = some (cl4O6 ps) := rfl
theorem cl4_7 (ps : String) : (cl4 ps)[7]? = some (cl4O7 ps) := rfl
theorem cl4_8 (ps : String) : (cl4 ps)[8]? = some (cl4O8 ps) := rfl
theorem cl4_9 (ps : String) : (cl4 ps)[9]? = some (cl4O9 ps) := rfl
theorem cl4_10 (ps : String) : (cl4 ps)[10]? = some (cl4O10 ps) := rfl
theorem cl4_11 (ps : String) : (cl4 ps)[11]? = some (cl4O11 ps) := rfl
theorem cl4_12 (ps : String) : (cl4 ps)[12]? = some (cl4O12 ps) := rfl
theorem cl4_13 (ps : String) : (cl4 ps)[13]? = some (cl4O13 ps) := rfl
theorem cl4_14 (ps : String) : (cl4 ps)[14]? = some (cl4O14 ps) := rfl
theorem cl4_15 (ps : String) : (cl4 ps)[15]? = some (cl4O15 ps) := rfl
theorem cl4_16 (ps : String) : (cl4 ps)[16]? = some (cl4O16 ps) := rfl
theorem cl4_17 (ps : String) : (cl4 ps)[17]? = some (cl4O17 ps) := rfl
theorem cl4_18 (ps : String) : (cl4 ps)[18]? = some (cl4O18 ps) := rfl
theorem cl4_19 (ps : String) : (cl4 ps)[19]? = some (cl4O19 ps) := rfl
theorem cl4_20 (ps : String) : (cl4 ps)[20]? = some (cl4O20 ps) := rfl
theorem cl4_21 (ps : String) : (cl4 ps)[21]? = some (cl4O21 ps) := rfl
theorem cl4_22 (ps : String) : (cl4 ps)[22]? = some (cl4O22 ps) := rfl
theorem cl4_23 (ps : String) : (cl4 ps)[23]? = some (cl4O23 ps) := rfl
def cl4D : Nat → Option Tmp
  | 0 => some 37
  | 1 => some 38
  | 2 => some 39
  | 3 => some 40
  | 4 => some 41
  | 5 => some 42
  | 6 => some 43
  | 7 => some 44
  | 8 => some 45
  | 9 => some 46
  | 10 => some 47
  | 11 => some 48
  | 12 => some 49
  | 13 => some 50
  | 14 => some 51
  | 15 => some 52
  | 16 => some 53
  | 17 => some 54
  | 18 => some 55
  | 19 => some 56
  | 20 => some 57
  | 21 => some 58
  | 22 => some 59
  | 23 => some 6
  | _ => none
def cl4T (c : Cc) (p : Nat) (x y : Int) : Nat → Value
  | 0 => .int .i64 x
  | 1 => .int .i64 y
  | 2 => .bool true
  | 3 => .bool true
  | 4 => .int .i64 x
  | 5 => .bool true
  | 6 => .bool true
  | 7 => .bool true
  | 8 => .int .i64 y
  | 9 => .bool true
  | 10 => .bool true
  | 11 => .bool true
  | 12 => ccv c
  | 13 => .pointer (some ⟨p, 7, none⟩)
  | 14 => .int .i64 c.ck
  | 15 => .int .i64 c.wm
  | 16 => .pointer (some ⟨p, 5, none⟩)
  | 17 => .int .i64 c.wm
  | 18 => .bool true
  | 19 => .bool true
  | 20 => .bool true
  | 21 => .bool true
  | 22 => .bool true
  | 23 => .bool true
  | _ => undef
set_option maxRecDepth 100000 in
set_option maxHeartbeats 4000000 in
theorem cl4_reg {ps : String} {Q : Exit → Act → World → Prop} {a0 : Act} {W0 : World} (sz : a0.tmps.size = 60) (c : Cc) (p : Nat) (x y : Int)
    (e3 : a0.eval (.tmp 3) = .pointer (some ⟨p, 0, none⟩)) (e7 : a0.eval (.tmp 7) = .int .i64 x) (e8 : a0.eval (.tmp 8) = .int .i64 y)
    (hb0 : Box W0 p 26 (ccL c)) (h1 : x ≤ y) (h2 : 0 ≤ x) (h3 : y ≤ 1073741824) (c1 : ∀ W, Calls Try.prog 13 #[ccv c, .int .i64 c.ck] W fun e w' => e = .returned (.int .i64 c.wm) ∧ Below W.heap.size W w')(c2 : ∀ W, Calls Try.prog 15 #[] W fun e w' => e = .returned (.bool true) ∧ Below W.heap.size W w')
    (hfin : ∀ (T : Nat → Value) w, T 23 = .bool true → Box w p 26 (ccL c) ∧ Below W0.heap.size W0 w → Q .normal ((((((((((((((((((((((((a0.put (some 37) (T 0)).put (some 38) (T 1)).put (some 39) (T 2)).put (some 40) (T 3)).put (some 41) (T 4)).put (some 42) (T 5)).put (some 43) (T 6)).put (some 44) (T 7)).put (some 45) (T 8)).put (some 46) (T 9)).put (some 47) (T 10)).put (some 48) (T 11)).put (some 49) (T 12)).put (some 50) (T 13)).put (some 51) (T 14)).put (some 52) (T 15)).put (some 53) (T 16)).put (some 54) (T 17)).put (some 55) (T 18)).put (some 56) (T 19)).put (some 57) (T 20)).put (some 58) (T 21)).put (some 59) (T 22)).put (some 6) (T 23)) w) :
    (Code.region 4 (cl4 ps) true).wp Try.prog Q a0 W0 := by
  refine wp_region_dets (by kernel_rfl) 24 rfl cl4D ?_ (by decide) (cl4T c p x y) (fun D w => Box w p 26 (ccL c) ∧ Below W0.heap.size W0 w) (fun D _ => ⟨hb0.drew, Below.drew (Below.refl _ _)⟩) ?_ (by rfl) (fun w D _ hSw => hfin (cl4T c p x y) w rfl hSw)
  · intro jq t hj ht
    have : ∀ j, j < 24 → (cl4D j).all (· < 60) = true := by decide
    have := this jq hj
    rw [ht] at this
    rw [sz]
    simpa using this
  · intro iq o ho D a w hSw hDi hcl hs hel K hK
    have hin : iq < 24 := (Array.getElem?_eq_some_iff.1 ho).1
    match iq, hin, ho with
    | 0, _, ho =>
      obtain rfl := Option.some.inj (ho.symm.trans (cl4_0 ps))
      have u7 : a.eval (.tmp 7) = .int .i64 x := (hel 7 (by decide)).trans e7
      exact op_valW (cl4_0 ps) rfl (v := .int .i64 x) (by unfold cl4O0 execOp; simp only [u7]; first | (go_simp; done) | (go_simp; with_reducible rfl)) (hK w (fun D' _ _ => hSw))
    | 1, _, ho =>
      obtain rfl := Option.some.inj (ho.symm.trans (cl4_1 ps))
      have u8 : a.eval (.tmp 8) = .int .i64 y := (hel 8 (by decide)).trans e8
      exact op_valW (cl4_1 ps) rfl (v := .int .i64 y) (by unfold cl4O1 execOp; simp only [u8]; first | (go_simp; done) | (go_simp; with_reducible rfl)) (hK w (fun D' _ _ => hSw))
    | 2, _, ho =>
      obtain rfl := Option.some.inj (ho.symm.trans (cl4_2 ps))
      have s0 : a.eval (.tmp 37) = .int .i64 x := hs 0 37 (by rfl) rfl
      have s1 : a.eval (.tmp 38) = .int .i64 y := hs 1 38 (by rfl) rfl
      have hcl : decide (x ≤ y) = true := decide_eq_true h1
      have hcl2 := h1
      exact op_valW (cl4_2 ps) rfl (v := .bool true) (by unfold cl4O2 execOp; simp only [s0, s1]; first | (go_simp; done) | (go_simp; with_reducible rfl)) (hK w (fun D' _ _ => hSw))
    | 3, _, ho =>
      obtain rfl := Option.some.inj (ho.symm.trans (cl4_3 ps))
      have s2 : a.eval (.tmp 39) = .bool true := hs 2 39 (by rfl) rfl
      exact op_valW (cl4_3 ps) rfl (v := .bool true) (by unfold cl4O3 execOp; simp only [s2]; first | (go_simp; done) | (go_simp; with_reducible rfl)) (hK w (fun D' _ _ => hSw))
    | 4, _, ho =>
      obtain rfl := Option.some.inj (ho.symm.trans (cl4_4 ps))
      have s3 : a.eval (.tmp 40) = .bool true := hs 3 40 (by rfl) rfl
      have u7 : a.eval (.tmp 7) = .int .i64 x := (hel 7 (by decide)).trans e7
      exact op_valW (cl4_4 ps) (by rw [wanted_of rfl (cl4_3 ps) rfl s3]; rfl) (v := .int .i64 x) (by unfold cl4O4 execOp; simp only [u7]; first | (go_simp; done) | (go_simp; with_reducible rfl)) (hK w (fun D' _ _ => hSw))
    | 5, _, ho =>
      obtain rfl := Option.some.inj (ho.symm.trans (cl4_5 ps))
      have s4 : a.eval (.tmp 41) = .int .i64 x := hs 4 41 (by rfl) rfl
      have s3 : a.eval (.tmp 40) = .bool true := hs 3 40 (by rfl) rfl
      have hcl : decide (0 ≤ x) = true := decide_eq_true h2
      have hcl2 := h2
      exact op_valW (cl4_5 ps) (by rw [wanted_of rfl (cl4_3 ps) rfl s3]; rfl) (v := .bool true) (by unfold cl4O5 execOp; simp only [s4]; first | (go_simp; done) | (go_simp; with_reducible rfl)) (hK w (fun D' _ _ => hSw))
    | 6, _, ho =>
      obtain rfl := Option.some.inj (ho.symm.trans (cl4_6 ps))
      have s3 : a.eval (.tmp 40) = .bool true := hs 3 40 (by rfl) rfl
      have s5 : a.eval (.tmp 42) = .bool true := hs 5 42 (by rfl) rfl
      exact op_valW (cl4_6 ps) rfl (v := .bool true) (by unfold cl4O6 execOp; simp only [s3, s5]; first | (go_simp; done) | (go_simp; with_reducible rfl)) (hK w (fun D' _ _ => hSw))
    | 7, _, ho =>
      obtain rfl := Option.some.inj (ho.symm.trans (cl4_7 ps))
      have s6 : a.eval (.tmp 43) = .bool true := hs 6 43 (by rfl) rfl
      exact op_valW (cl4_7 ps) rfl (v := .bool true) (by unfold cl4O7 execOp; simp only [s6]; first | (go_simp; done) | (go_simp; with_reducible rfl)) (hK w (fun D' _ _ => hSw))
    | 8, _, ho =>
      obtain rfl := Option.some.inj (ho.symm.trans (cl4_8 ps))
      have s7 : a.eval (.tmp 44) = .bool true := hs 7 44 (by rfl) rfl
      have u8 : a.eval (.tmp 8) = .int .i64 y := (hel 8 (by decide)).trans e8
      exact op_valW (cl4_8 ps) (by rw [wanted_of rfl (cl4_7 ps) rfl s7]; rfl) (v := .int .i64 y) (by unfold cl4O8 execOp; simp only [u8]; first | (go_simp; done) | (go_simp; with_reducible rfl)) (hK w (fun D' _ _ => hSw))
    | 9, _, ho =>
      obtain rfl := Option.some.inj (ho.symm.trans (cl4_9 ps))
      have s8 : a.eval (.tmp 45) = .int .i64 y := hs 8 45 (by rfl) rfl
      have s7 : a.eval (.tmp 44) = .bool true := hs 7 44 (by rfl) rfl
      have hcl : decide (y ≤ 1073741824) = true := decide_eq_true h3
      have hcl2 := h3
      exact op_valW (cl4_9 ps) (by rw [wanted_of rfl (cl4_7 ps) rfl s7]; rfl) (v := .bool true) (by unfold cl4O9 execOp; simp only [s8]; first | (go_simp; done) | (go_simp; with_reducible rfl)) (hK w (fun D' _ _ => hSw))
    | 10, _, ho =>
      obtain rfl := Option.some.inj (ho.symm.trans (cl4_10 ps))
      have s7 : a.eval (.tmp 44) = .bool true := hs 7 44 (by rfl) rfl
      have s9 : a.eval (.tmp 46) = .bool true := hs 9 46 (by rfl) rfl
      exact op_valW (cl4_10 ps) rfl (v := .bool true) (by unfold cl4O10 execOp; simp only [s7, s9]; first | (go_simp; done) | (go_simp; with_reducible rfl)) (hK w (fun D' _ _ => hSw))
    | 11, _, ho =>
      obtain rfl := Option.some.inj (ho.symm.trans (cl4_11 ps))
      have s10 : a.eval (.tmp 47) = .bool true := hs 10 47 (by rfl) rfl
      exact op_valW (cl4_11 ps) rfl (v := .bool true) (by unfold cl4O11 execOp; simp only [s10]; first | (go_simp; done) | (go_simp; with_reducible rfl)) (hK w (fun D' _ _ => hSw))
    | 12, _, ho =>
      obtain rfl := Option.some.inj (ho.symm.trans (cl4_12 ps))
      have s11 : a.eval (.tmp 48) = .bool true := hs 11 48 (by rfl) rfl
      have u3 : a.eval (.tmp 3) = .pointer (some ⟨p, 0, none⟩) := (hel 3 (by decide)).trans e3
      exact op_valW (cl4_12 ps) (by rw [wanted_of rfl (cl4_11 ps) rfl s11]; rfl) (v := ccv c) (run_loadC isC26 rfl u3 hSw.1) (hK w (fun D' _ _ => hSw))
    | 13, _, ho =>
      obtain rfl := Option.some.inj (ho.symm.trans (cl4_13 ps))
      have s11 : a.eval (.tmp 48) = .bool true := hs 11 48 (by rfl) rfl
      have u3 : a.eval (.tmp 3) = .pointer (some ⟨p, 0, none⟩) := (hel 3 (by decide)).trans e3
      exact op_valW (cl4_13 ps) (by rw [wanted_of rfl (cl4_11 ps) rfl s11]; rfl) (v := .pointer (some ⟨p, 7, none⟩)) (by unfold cl4O13 execOp; simp only [u3]; first | (go_simp; done) | (go_simp; with_reducible rfl)) (hK w (fun D' _ _ => hSw))
    | 14, _, ho =>
      obtain rfl := Option.some.inj (ho.symm.trans (cl4_14 ps))
      have s13 : a.eval (.tmp 50) = .pointer (some ⟨p, 7, none⟩) := hs 13 50 (by rfl) rfl
      have s11 : a.eval (.tmp 48) = .bool true := hs 11 48 (by rfl) rfl
      have hcl := Box.cell hSw.1 7 rfl
      exact op_valW (cl4_14 ps) (by rw [wanted_of rfl (cl4_11 ps) rfl s11]; rfl) (v := .int .i64 c.ck) (by unfold cl4O14 execOp; simp only [s13]; first | (go_simp; done) | (go_simp; with_reducible rfl)) (hK w (fun D' _ _ => hSw))
    | 15, _, ho =>
      obtain rfl := Option.some.inj (ho.symm.trans (cl4_15 ps))
      have s12 : a.eval (.tmp 49) = ccv c := hs 12 49 (by rfl) rfl
      have s14 : a.eval (.tmp 51) = .int .i64 c.ck := hs 14 51 (by rfl) rfl
      have s11 : a.eval (.tmp 48) = .bool true := hs 11 48 (by rfl) rfl
      exact op_enterW (cl4_15 ps) (by rw [wanted_of rfl (cl4_11 ps) rfl s11]; rfl) (f := 13) (args := #[ccv c, .int .i64 c.ck]) (by rw [run_call rfl enter13]; simp only [List.map_toArray, List.map_cons, List.map_nil, s12, s14]; try rfl) ((c1 w).mono (fun e w' hh => ⟨_, hh.1, hK w' (fun D' _ _ => ⟨hSw.1.later hh.2, Below.on hSw.2 hh.2⟩)⟩))
    | 16, _, ho =>
      obtain rfl := Option.some.inj (ho.symm.trans (cl4_16 ps))
      have s11 : a.eval (.tmp 48) = .bool true := hs 11 48 (by rfl) rfl
      have u3 : a.eval (.tmp 3) = .pointer (some ⟨p, 0, none⟩) := (hel 3 (by decide)).trans e3
      exact op_valW (cl4_16 ps) (by rw [wanted_of rfl (cl4_11 ps) rfl s11]; rfl) (v := .pointer (some ⟨p, 5, none⟩)) (by unfold cl4O16 execOp; simp only [u3]; first | (go_simp; done) | (go_simp; with_reducible rfl)) (hK w (fun D' _ _ => hSw))
    | 17, _, ho =>
      obtain rfl := Option.some.inj (ho.symm.trans (cl4_17 ps))
      have s16 : a.eval (.tmp 53) = .pointer (some ⟨p, 5, none⟩) := hs 16 53 (by rfl) rfl
      have s11 : a.eval (.tmp 48) = .bool true := hs 11 48 (by rfl) rfl
      have hcl := Box.cell hSw.1 5 rfl
      exact op_valW (cl4_17 ps) (by rw [wanted_of rfl (cl4_11 ps) rfl s11]; rfl) (v := .int .i64 c.wm) (by unfold cl4O17 execOp; simp only [s16]; first | (go_simp; done) | (go_simp; with_reducible rfl)) (hK w (fun D' _ _ => hSw))
    | 18, _, ho =>
      obtain rfl := Option.some.inj (ho.symm.trans (cl4_18 ps))
      have s15 : a.eval (.tmp 52) = .int .i64 c.wm := hs 15 52 (by rfl) rfl
      have s17 : a.eval (.tmp 54) = .int .i64 c.wm := hs 17 54 (by rfl) rfl
      have s11 : a.eval (.tmp 48) = .bool true := hs 11 48 (by rfl) rfl
      exact op_valW (cl4_18 ps) (by rw [wanted_of rfl (cl4_11 ps) rfl s11]; rfl) (v := .bool true) (by unfold cl4O18 execOp; simp only [s15, s17]; first | (go_simp; done) | (go_simp; with_reducible rfl)) (hK w (fun D' _ _ => hSw))
    | 19, _, ho =>
      obtain rfl := Option.some.inj (ho.symm.trans (cl4_19 ps))
      have s11 : a.eval (.tmp 48) = .bool true := hs 11 48 (by rfl) rfl
      have s18 : a.eval (.tmp 55) = .bool true := hs 18 55 (by rfl) rfl
      exact op_valW (cl4_19 ps) rfl (v := .bool true) (by unfold cl4O19 execOp; simp only [s11, s18]; first | (go_simp; done) | (go_simp; with_reducible rfl)) (hK w (fun D' _ _ => hSw))
    | 20, _, ho =>
      obtain rfl := Option.some.inj (ho.symm.trans (cl4_20 ps))
      have s19 : a.eval (.tmp 56) = .bool true := hs 19 56 (by rfl) rfl
      exact op_valW (cl4_20 ps) rfl (v := .bool true) (by unfold cl4O20 execOp; simp only [s19]; first | (go_simp; done) | (go_simp; with_reducible rfl)) (hK w (fun D' _ _ => hSw))
    | 21, _, ho =>
      obtain rfl := Option.some.inj (ho.symm.trans (cl4_21 ps))
      have s20 : a.eval (.tmp 57) = .bool true := hs 20 57 (by rfl) rfl
      exact op_enterW (cl4_21 ps) (by rw [wanted_of rfl (cl4_20 ps) rfl s20]; rfl) (f := 15) (args := #[]) (by rw [run_call rfl enter15]; simp only [List.map_toArray, List.map_nil]; try rfl) ((c2 w).mono (fun e w' hh => ⟨_, hh.1, hK w' (fun D' _ _ => ⟨hSw.1.later hh.2, Below.on hSw.2 hh.2⟩)⟩))
    | 22, _, ho =>
      obtain rfl := Option.some.inj (ho.symm.trans (cl4_22 ps))
      have s20 : a.eval (.tmp 57) = .bool true := hs 20 57 (by rfl) rfl
      have s21 : a.eval (.tmp 58) = .bool true := hs 21 58 (by rfl) rfl
      exact op_valW (cl4_22 ps) rfl (v := .bool true) (by unfold cl4O22 execOp; simp only [s20, s21]; first | (go_simp; done) | (go_simp; with_reducible rfl)) (hK w (fun D' _ _ => hSw))
    | 23, _, ho =>
      obtain rfl := Option.some.inj (ho.symm.trans (cl4_23 ps))
      have s22 : a.eval (.tmp 59) = .bool true := hs 22 59 (by rfl) rfl
      exact op_valW (cl4_23 ps) rfl (v := .bool true) (by unfold cl4O23 execOp; simp only [s22]; first | (go_simp; done) | (go_simp; with_reducible rfl)) (hK w (fun D' _ _ => hSw))
    | iq + 24, hin, _ => exact absurd hin (by omega)
end Go.Proofs.Ytikcjdoeoghoeaa
