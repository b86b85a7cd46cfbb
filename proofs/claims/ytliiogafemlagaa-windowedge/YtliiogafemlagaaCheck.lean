/- The contract of Check. -/
import Derived.Test.YtliiogafemlagaaDets
namespace Go.Proofs.Ytliiogafemlagaa
open Go.ChangeShapes Go.WideShapes Go.ChangeAt Go.RowKit Go.Shelf
set_option linter.unusedVariables false
set_option linter.unusedSimpArgs false
attribute [local go_sem] Oper.semAt_some

def ck7O0 (ps : String) : Oper := { dst := some 42, op := .load 23 (.tmp 1), type := 23, pos := ps, after := #[], guard := none }
def ck7O1 (ps : String) : Oper := { dst := some 43, op := .call { callee := .value (.func 25), args := #[.tmp 42], argTypes := #[23] }, type := 3, pos := ps, after := #[{ on := 0, ground := .data }], guard := none }
def ck7O2 (ps : String) : Oper := { dst := some 44, op := .fieldAddr 23 (.tmp 1) 2, type := 0, pos := ps, after := #[], guard := none }
def ck7O3 (ps : String) : Oper := { dst := some 45, op := .load 3 (.tmp 44), type := 3, pos := ps, after := #[{ on := 2, ground := .data }], guard := none }
def ck7O4 (ps : String) : Oper := { dst := some 46, op := .binOp .gtr 3 (.tmp 43) (.tmp 45) 3, type := 4, pos := ps, after := #[{ on := 1, ground := .data }, { on := 3, ground := .data }], guard := none }
def ck7O5 (ps : String) : Oper := { dst := some 47, op := .move (.tmp 46), type := 4, pos := ps, after := #[{ on := 4, ground := .data }, { on := 1, ground := .chain }], guard := none }
def ck7O6 (ps : String) : Oper := { dst := some 48, op := .fieldAddr 23 (.tmp 1) 6, type := 0, pos := ps, after := #[{ on := 5, ground := .guard }], guard := some (5, false) }
def ck7O7 (ps : String) : Oper := { dst := some 49, op := .load 3 (.tmp 48), type := 3, pos := ps, after := #[{ on := 6, ground := .data }, { on := 5, ground := .guard }], guard := some (5, false) }
def ck7O8 (ps : String) : Oper := { dst := some 50, op := .binOp .lss 3 (.tmp 49) (.const (.int .i64 0)) 3, type := 4, pos := ps, after := #[{ on := 7, ground := .data }, { on := 5, ground := .guard }], guard := some (5, false) }
def ck7O9 (ps : String) : Oper := { dst := some 51, op := .pick (.tmp 47) (.const (.bool true)) (.tmp 50), type := 4, pos := ps, after := #[{ on := 5, ground := .data }, { on := 8, ground := .data }], guard := none }
def ck7O10 (ps : String) : Oper := { dst := some 52, op := .move (.tmp 51), type := 4, pos := ps, after := #[{ on := 9, ground := .data }, { on := 5, ground := .chain }], guard := none }
def ck7O11 (ps : String) : Oper := { dst := some 53, op := .fieldAddr 23 (.tmp 1) 6, type := 0, pos := ps, after := #[{ on := 10, ground := .guard }], guard := some (10, false) }
def ck7O12 (ps : String) : Oper := { dst := some 54, op := .load 3 (.tmp 53), type := 3, pos := ps, after := #[{ on := 11, ground := .data }, { on := 10, ground := .guard }], guard := some (10, false) }
def ck7O13 (ps : String) : Oper := { dst := some 55, op := .binOp .gtr 3 (.tmp 54) (.const (.int .i64 100)) 3, type := 4, pos := ps, after := #[{ on := 12, ground := .data }, { on := 10, ground := .guard }], guard := some (10, false) }
def ck7O14 (ps : String) : Oper := { dst := some 56, op := .pick (.tmp 52) (.const (.bool true)) (.tmp 55), type := 4, pos := ps, after := #[{ on := 10, ground := .data }, { on := 13, ground := .data }], guard := none }
def ck7 (ps : String) : Array Oper := #[ck7O0 ps, ck7O1 ps, ck7O2 ps, ck7O3 ps, ck7O4 ps, ck7O5 ps, ck7O6 ps, ck7O7 ps, ck7O8 ps, ck7O9 ps, ck7O10 ps, ck7O11 ps, ck7O12 ps, ck7O13 ps, ck7O14 ps]
theorem ck7_0 (ps : String) : (ck7 ps)[0]? = some (ck7O0 ps) := rfl
theorem ck7_1 (ps : String) : (ck7 ps)[1]? = some (ck7O1 ps) := rfl
theorem ck7_2 (ps : String) : (ck7 ps)[2]? = some (ck7O2 ps) := rfl
theorem ck7_3 (ps : String) : (ck7 ps)[3]? = some (ck7O3 ps) := rfl
theorem ck7_4 (ps : String) : (ck7 ps)[4]? = some (ck7O4 ps) := rfl
theorem ck7_5 (ps : String) : (ck7 ps)[5]? = some (ck7O5 ps) := rfl
theorem ck7_6 (ps : String) : (ck7 ps)[6]? = some (ck7O6 ps) := rfl
theorem ck7_7 (ps : String) : (ck7 ps)[7]? = some (ck7O7 ps) := rfl
theorem ck7_8 (ps : String) : (ck7 ps)[8]? = some (ck7O8 ps) := rfl
theorem ck7_9 (ps : String) : (ck7 ps)[9]? = some (ck7O9 ps) := rfl
theorem ck7_10 (ps : String) : (ck7 ps)[10]? = some (ck7O10 ps) := rfl
theorem ck7_11 (ps : String) : (ck7 ps)[11]? = some (ck7O11 ps) := rfl
theorem ck7_12 (ps : String) : (ck7 ps)[12]? = some (ck7O12 ps) := rfl
theorem ck7_13 (ps : String) : (ck7 ps)[13]? = some (ck7O13 ps) := rfl
theorem ck7_14 (ps : String) : (ck7 ps)[14]? = some (ck7O14 ps) := rfl
def ck7D : Nat → Option Tmp
  | 0 => some 42
  | 1 => some 43
  | 2 => some 44
  | 3 => some 45
  | 4 => some 46
  | 5 => some 47
  | 6 => some 48
  | 7 => some 49
  | 8 => some 50
  | 9 => some 51
  | 10 => some 52
  | 11 => some 53
  | 12 => some 54
  | 13 => some 55
  | 14 => some 56
  | _ => none
def ck7T (p : Wn) (g B0 : Nat) (WW : World) : Nat → Value
  | 0 => agv (wnL p)
  | 1 => .int .i64 (p.l2 + p.sz)
  | 2 => .pointer (some ⟨g, 2, none⟩)
  | 3 => .int .i64 p.ed
  | 4 => .bool true
  | 5 => .bool true
  | 6 => undef
  | 7 => undef
  | 8 => undef
  | 9 => .bool true
  | 10 => .bool true
  | 11 => undef
  | 12 => undef
  | 13 => undef
  | 14 => .bool true
  | _ => undef
set_option maxRecDepth 100000 in
set_option maxHeartbeats 4000000 in
theorem ck7_reg {ps : String} {Q : Exit → Act → World → Prop} {a0 : Act} {W0 : World} (sz : a0.tmps.size = 57) (p : Wn) (g B0 : Nat) (WW : World)
    (e1 : a0.eval (.tmp 1) = .pointer (some ⟨g, 0, none⟩))
    (l0 : B0 ≤ g) (hS0 : Below B0 WW W0 ∧ Box W0 g 23 (wnL p) ∧ True) (d1 : decide (p.ed < p.l2 + p.sz) = true) (c6 : ∀ W, Calls Try.prog 25 #[agv (wnL p)] W fun e w' => e = .returned (.int .i64 (p.l2 + p.sz)) ∧ Below W.heap.size W w') 
    (hfin : ∀ (T : Nat → Value) w, T 14 = .bool true → Below B0 WW w ∧ Box w g 23 (wnL p) ∧ True → Q .normal (((((((((((((((a0.put (some 42) (T 0)).put (some 43) (T 1)).put (some 44) (T 2)).put (some 45) (T 3)).put (some 46) (T 4)).put (some 47) (T 5)).put (some 48) (T 6)).put (some 49) (T 7)).put (some 50) (T 8)).put (some 51) (T 9)).put (some 52) (T 10)).put (some 53) (T 11)).put (some 54) (T 12)).put (some 55) (T 13)).put (some 56) (T 14)) w) :
    (Code.region 5 (ck7 ps) true).wp Try.prog Q a0 W0 := by
  refine wp_region_dets (by kernel_rfl) 15 rfl ck7D ?_ (by decide) (ck7T p g B0 WW) (fun D w => Below B0 WW w ∧ Box w g 23 (wnL p) ∧ True) (fun D _ => ⟨hS0.1.drew, hS0.2.1, trivial⟩) ?_ (by rfl) (fun w D _ hSw => hfin (ck7T p g B0 WW) w rfl hSw)
  · intro jq t hj ht
    have : ∀ j, j < 15 → (ck7D j).all (· < 57) = true := by decide
    have := this jq hj
    rw [ht] at this
    rw [sz]
    simpa using this
  · intro iq o ho D a w hSw hDi hcl hs hel K hK
    have hin : iq < 15 := (Array.getElem?_eq_some_iff.1 ho).1
    match iq, hin, ho with
    | 0, _, ho =>
      obtain rfl := Option.some.inj (ho.symm.trans (ck7_0 ps))
      have u1 : a.eval (.tmp 1) = .pointer (some ⟨g, 0, none⟩) := (hel 1 (by decide)).trans e1
      exact op_valW (ck7_0 ps) rfl (v := agv (wnL p)) (run_loadS isS23 rfl u1 hSw.2.1) (hK w (fun D' _ _ => hSw))
    | 1, _, ho =>
      obtain rfl := Option.some.inj (ho.symm.trans (ck7_1 ps))
      have s0 : a.eval (.tmp 42) = agv (wnL p) := hs 0 42 (by rfl) rfl
      exact op_enterW (ck7_1 ps) rfl (f := 25) (args := #[agv (wnL p)]) (by rw [run_call rfl enter25]; simp only [List.map_toArray, List.map_cons, List.map_nil, s0]; try rfl) ((c6 w).mono (fun e w' hh => ⟨_, hh.1, hK w' (fun D' _ _ => ⟨hSw.1.trans (hh.2.mono (Nat.le_trans l0 (Nat.le_of_lt hSw.2.1.lt))), hSw.2.1.later hh.2, trivial⟩)⟩))
    | 2, _, ho =>
      obtain rfl := Option.some.inj (ho.symm.trans (ck7_2 ps))
      have u1 : a.eval (.tmp 1) = .pointer (some ⟨g, 0, none⟩) := (hel 1 (by decide)).trans e1
      exact op_valW (ck7_2 ps) rfl (v := .pointer (some ⟨g, 2, none⟩)) (by unfold ck7O2 execOp; simp only [u1]; first | (go_simp; done) | (go_simp; with_reducible rfl)) (hK w (fun D' _ _ => hSw))
    | 3, _, ho =>
      obtain rfl := Option.some.inj (ho.symm.trans (ck7_3 ps))
      have s2 : a.eval (.tmp 44) = .pointer (some ⟨g, 2, none⟩) := hs 2 44 (by rfl) rfl
      have hcl := Box.cell hSw.2.1 2 rfl
      exact op_valW (ck7_3 ps) rfl (v := .int .i64 p.ed) (by unfold ck7O3 execOp; simp only [s2]; first | (go_simp; done) | (go_simp; with_reducible rfl)) (hK w (fun D' _ _ => hSw))
    | 4, _, ho =>
      obtain rfl := Option.some.inj (ho.symm.trans (ck7_4 ps))
      have s1 : a.eval (.tmp 43) = .int .i64 (p.l2 + p.sz) := hs 1 43 (by rfl) rfl
      have s3 : a.eval (.tmp 45) = .int .i64 p.ed := hs 3 45 (by rfl) rfl
      have hd := d1
      exact op_valW (ck7_4 ps) rfl (v := .bool true) (by unfold ck7O4 execOp; simp only [s1, s3]; first | (go_simp; done) | (go_simp; with_reducible rfl)) (hK w (fun D' _ _ => hSw))
    | 5, _, ho =>
      obtain rfl := Option.some.inj (ho.symm.trans (ck7_5 ps))
      have s4 : a.eval (.tmp 46) = .bool true := hs 4 46 (by rfl) rfl
      exact op_valW (ck7_5 ps) rfl (v := .bool true) (by unfold ck7O5 execOp; simp only [s4]; first | (go_simp; done) | (go_simp; with_reducible rfl)) (hK w (fun D' _ _ => hSw))
    | 6, _, ho =>
      obtain rfl := Option.some.inj (ho.symm.trans (ck7_6 ps))
      have s5 : a.eval (.tmp 47) = .bool true := hs 5 47 (by rfl) rfl
      have u1 : a.eval (.tmp 1) = .pointer (some ⟨g, 0, none⟩) := (hel 1 (by decide)).trans e1
      exact op_skip (ck7_6 ps) (by rw [wanted_of rfl (ck7_5 ps) rfl s5]; rfl) (hK w (fun D' _ _ => hSw))
    | 7, _, ho =>
      obtain rfl := Option.some.inj (ho.symm.trans (ck7_7 ps))
      have s6 : a.eval (.tmp 48) = undef := hs 6 48 (by rfl) rfl
      have s5 : a.eval (.tmp 47) = .bool true := hs 5 47 (by rfl) rfl
      exact op_skip (ck7_7 ps) (by rw [wanted_of rfl (ck7_5 ps) rfl s5]; rfl) (hK w (fun D' _ _ => hSw))
    | 8, _, ho =>
      obtain rfl := Option.some.inj (ho.symm.trans (ck7_8 ps))
      have s7 : a.eval (.tmp 49) = undef := hs 7 49 (by rfl) rfl
      have s5 : a.eval (.tmp 47) = .bool true := hs 5 47 (by rfl) rfl
      exact op_skip (ck7_8 ps) (by rw [wanted_of rfl (ck7_5 ps) rfl s5]; rfl) (hK w (fun D' _ _ => hSw))
    | 9, _, ho =>
      obtain rfl := Option.some.inj (ho.symm.trans (ck7_9 ps))
      have s5 : a.eval (.tmp 47) = .bool true := hs 5 47 (by rfl) rfl
      have s8 : a.eval (.tmp 50) = undef := hs 8 50 (by rfl) rfl
      exact op_valW (ck7_9 ps) rfl (v := .bool true) (by unfold ck7O9 execOp; simp only [s5, s8]; first | (go_simp; done) | (go_simp; with_reducible rfl)) (hK w (fun D' _ _ => hSw))
    | 10, _, ho =>
      obtain rfl := Option.some.inj (ho.symm.trans (ck7_10 ps))
      have s9 : a.eval (.tmp 51) = .bool true := hs 9 51 (by rfl) rfl
      exact op_valW (ck7_10 ps) rfl (v := .bool true) (by unfold ck7O10 execOp; simp only [s9]; first | (go_simp; done) | (go_simp; with_reducible rfl)) (hK w (fun D' _ _ => hSw))
    | 11, _, ho =>
      obtain rfl := Option.some.inj (ho.symm.trans (ck7_11 ps))
      have s10 : a.eval (.tmp 52) = .bool true := hs 10 52 (by rfl) rfl
      have u1 : a.eval (.tmp 1) = .pointer (some ⟨g, 0, none⟩) := (hel 1 (by decide)).trans e1
      exact op_skip (ck7_11 ps) (by rw [wanted_of rfl (ck7_10 ps) rfl s10]; rfl) (hK w (fun D' _ _ => hSw))
    | 12, _, ho =>
      obtain rfl := Option.some.inj (ho.symm.trans (ck7_12 ps))
      have s11 : a.eval (.tmp 53) = undef := hs 11 53 (by rfl) rfl
      have s10 : a.eval (.tmp 52) = .bool true := hs 10 52 (by rfl) rfl
      exact op_skip (ck7_12 ps) (by rw [wanted_of rfl (ck7_10 ps) rfl s10]; rfl) (hK w (fun D' _ _ => hSw))
    | 13, _, ho =>
      obtain rfl := Option.some.inj (ho.symm.trans (ck7_13 ps))
      have s12 : a.eval (.tmp 54) = undef := hs 12 54 (by rfl) rfl
      have s10 : a.eval (.tmp 52) = .bool true := hs 10 52 (by rfl) rfl
      exact op_skip (ck7_13 ps) (by rw [wanted_of rfl (ck7_10 ps) rfl s10]; rfl) (hK w (fun D' _ _ => hSw))
    | 14, _, ho =>
      obtain rfl := Option.some.inj (ho.symm.trans (ck7_14 ps))
      have s10 : a.eval (.tmp 52) = .bool true := hs 10 52 (by rfl) rfl
      have s13 : a.eval (.tmp 55) = undef := hs 13 55 (by rfl) rfl
      exact op_valW (ck7_14 ps) rfl (v := .bool true) (by unfold ck7O14 execOp; simp only [s10, s13]; first | (go_simp; done) | (go_simp; with_reducible rfl)) (hK w (fun D' _ _ => hSw))
    | iq + 15, hin, _ => exact absurd hin (by omega)
def ck8O0 (ps : String) : Oper := { dst := some 42, op := .load 23 (.tmp 1), type := 23, pos := ps, after := #[], guard := none }
def ck8O1 (ps : String) : Oper := { dst := some 43, op := .call { callee := .value (.func 25), args := #[.tmp 42], argTypes := #[23] }, type := 3, pos := ps, after := #[{ on := 0, ground := .data }], guard := none }
def ck8O2 (ps : String) : Oper := { dst := some 44, op := .fieldAddr 23 (.tmp 1) 2, type := 0, pos := ps, after := #[], guard := none }
def ck8O3 (ps : String) : Oper := { dst := some 45, op := .load 3 (.tmp 44), type := 3, pos := ps, after := #[{ on := 2, ground := .data }], guard := none }
def ck8O4 (ps : String) : Oper := { dst := some 46, op := .binOp .gtr 3 (.tmp 43) (.tmp 45) 3, type := 4, pos := ps, after := #[{ on := 1, ground := .data }, { on := 3, ground := .data }], guard := none }
def ck8O5 (ps : String) : Oper := { dst := some 47, op := .move (.tmp 46), type := 4, pos := ps, after := #[{ on := 4, ground := .data }, { on := 1, ground := .chain }], guard := none }
def ck8O6 (ps : String) : Oper := { dst := some 48, op := .fieldAddr 23 (.tmp 1) 6, type := 0, pos := ps, after := #[{ on := 5, ground := .guard }], guard := some (5, false) }
def ck8O7 (ps : String) : Oper := { dst := some 49, op := .load 3 (.tmp 48), type := 3, pos := ps, after := #[{ on := 6, ground := .data }, { on := 5, ground := .guard }], guard := some (5, false) }
def ck8O8 (ps : String) : Oper := { dst := some 50, op := .binOp .lss 3 (.tmp 49) (.const (.int .i64 0)) 3, type := 4, pos := ps, after := #[{ on := 7, ground := .data }, { on := 5, ground := .guard }], guard := some (5, false) }
def ck8O9 (ps : String) : Oper := { dst := some 51, op := .pick (.tmp 47) (.const (.bool true)) (.tmp 50), type := 4, pos := ps, after := #[{ on := 5, ground := .data }, { on := 8, ground := .data }], guard := none }
def ck8O10 (ps : String) : Oper := { dst := some 52, op := .move (.tmp 51), type := 4, pos := ps, after := #[{ on := 9, ground := .data }, { on := 5, ground := .chain }], guard := none }
def ck8O11 (ps : String) : Oper := { dst := some 53, op := .fieldAddr 23 (.tmp 1) 6, type := 0, pos := ps, after := #[{ on := 10, ground := .guard }], guard := some (10, false) }
def ck8O12 (ps : String) : Oper := { dst := some 54, op := .load 3 (.tmp 53), type := 3, pos := ps, after := #[{ on := 11, ground := .data }, { on := 10, ground := .guard }], guard := some (10, false) }
def ck8O13 (ps : String) : Oper := { dst := some 55, op := .binOp .gtr 3 (.tmp 54) (.const (.int .i64 100)) 3, type := 4, pos := ps, after := #[{ on := 12, ground := .data }, { on := 10, ground := .guard }], guard := some (10, false) }
def ck8O14 (ps : String) : Oper := { dst := some 56, op := .pick (.tmp 52) (.const (.bool true)) (.tmp 55), type := 4, pos := ps, after := #[{ on := 10, ground := .data }, { on := 13, ground := .data }], guard := none }
def ck8 (ps : String) : Array Oper := #[ck8O0 ps, ck8O1 ps, ck8O2 ps, ck8O3 ps, ck8O4 ps, ck8O5 ps, ck8O6 ps, ck8O7 ps, ck8O8 ps, ck8O9 ps, ck8O10 ps, ck8O11 ps, ck8O12 ps, ck8O13 ps, ck8O14 ps]
theorem ck8_0 (ps : String) : (ck8 ps)[0]? = some (ck8O0 ps) := rfl
theorem ck8_1 (ps : String) : (ck8 ps)[1]? = some (ck8O1 ps) := rfl
theorem ck8_2 (ps : String) : (ck8 ps)[2]? = some (ck8O2 ps) := rfl
theorem ck8_3 (ps : String) : (ck8 ps)[3]? = some (ck8O3 ps) := rfl
theorem ck8_4 (ps : String) : (ck8 ps)[4]? = some (ck8O4 ps) := rfl
theorem ck8_5 (ps : String) : (ck8 ps)[5]? = some (ck8O5 ps) := rfl
theorem ck8_6 (ps : String) : (ck8 ps)[6]? = some (ck8O6 ps) := rfl
theorem ck8_7 (ps : String) : (ck8 ps)[7]? = some (ck8O7 ps) := rfl
theorem ck8_8 (ps : String) : (ck8 ps)[8]? = some (ck8O8 ps) := rfl
theorem ck8_9 (ps : String) : (ck8 ps)[9]? = some (ck8O9 ps) := rfl
theorem ck8_10 (ps : String) : (ck8 ps)[10]? = some (ck8O10 ps) := rfl
theorem ck8_11 (ps : String) : (ck8 ps)[11]? = some (ck8O11 ps) := rfl
theorem ck8_12 (ps : String) : (ck8 ps)[12]? = some (ck8O12 ps) := rfl
theorem ck8_13 (ps : String) : (ck8 ps)[13]? = some (ck8O13 ps) := rfl
theorem ck8_14 (ps : String) : (ck8 ps)[14]? = some (ck8O14 ps) := rfl
def ck8D : Nat → Option Tmp
  | 0 => some 42
  | 1 => some 43
  | 2 => some 44
  | 3 => some 45
  | 4 => some 46
  | 5 => some 47
  | 6 => some 48
  | 7 => some 49
  | 8 => some 50
  | 9 => some 51
  | 10 => some 52
  | 11 => some 53
  | 12 => some 54
  | 13 => some 55
  | 14 => some 56
  | _ => none
def ck8T (p : Wn) (g B0 : Nat) (WW : World) : Nat → Value
  | 0 => agv (wnL p)
  | 1 => .int .i64 (p.l2 + p.sz)
  | 2 => .pointer (some ⟨g, 2, none⟩)
  | 3 => .int .i64 p.ed
  | 4 => .bool false
  | 5 => .bool false
  | 6 => .pointer (some ⟨g, 6, none⟩)
  | 7 => .int .i64 p.tr
  | 8 => .bool true
  | 9 => .bool true
  | 10 => .bool true
  | 11 => undef
  | 12 => undef
  | 13 => undef
  | 14 => .bool true
  | _ => undef
set_option maxRecDepth 100000 in
set_option maxHeartbeats 4000000 in
theorem ck8_reg {ps : String} {Q : Exit → Act → World → Prop} {a0 : Act} {W0 : World} (sz : a0.tmps.size = 57) (p : Wn) (g B0 : Nat) (WW : World)
    (e1 : a0.eval (.tmp 1) = .pointer (some ⟨g, 0, none⟩))
    (l0 : B0 ≤ g) (hS0 : Below B0 WW W0 ∧ Box W0 g 23 (wnL p) ∧ True) (d1 : decide (p.ed < p.l2 + p.sz) = false) (d2 : decide (p.tr < 0) = true) (c6 : ∀ W, Calls Try.prog 25 #[agv (wnL p)] W fun e w' => e = .returned (.int .i64 (p.l2 + p.sz)) ∧ Below W.heap.size W w') 
    (hfin : ∀ (T : Nat → Value) w, T 14 = .bool true → Below B0 WW w ∧ Box w g 23 (wnL p) ∧ True → Q .normal (((((((((((((((a0.put (some 42) (T 0)).put (some 43) (T 1)).put (some 44) (T 2)).put (some 45) (T 3)).put (some 46) (T 4)).put (some 47) (T 5)).put (some 48) (T 6)).put (some 49) (T 7)).put (some 50) (T 8)).put (some 51) (T 9)).put (some 52) (T 10)).put (some 53) (T 11)).put (some 54) (T 12)).put (some 55) (T 13)).put (some 56) (T 14)) w) :
    (Code.region 5 (ck8 ps) true).wp Try.prog Q a0 W0 := by
  refine wp_region_dets (by kernel_rfl) 15 rfl ck8D ?_ (by decide) (ck8T p g B0 WW) (fun D w => Below B0 WW w ∧ Box w g 23 (wnL p) ∧ True) (fun D _ => ⟨hS0.1.drew, hS0.2.1, trivial⟩) ?_ (by rfl) (fun w D _ hSw => hfin (ck8T p g B0 WW) w rfl hSw)
  · intro jq t hj ht
    have : ∀ j, j < 15 → (ck8D j).all (· < 57) = true := by decide
    have := this jq hj
    rw [ht] at this
    rw [sz]
    simpa using this
  · intro iq o ho D a w hSw hDi hcl hs hel K hK
    have hin : iq < 15 := (Array.getElem?_eq_some_iff.1 ho).1
    match iq, hin, ho with
    | 0, _, ho =>
      obtain rfl := Option.some.inj (ho.symm.trans (ck8_0 ps))
      have u1 : a.eval (.tmp 1) = .pointer (some ⟨g, 0, none⟩) := (hel 1 (by decide)).trans e1
      exact op_valW (ck8_0 ps) rfl (v := agv (wnL p)) (run_loadS isS23 rfl u1 hSw.2.1) (hK w (fun D' _ _ => hSw))
    | 1, _, ho =>
      obtain rfl := Option.some.inj (ho.symm.trans (ck8_1 ps))
      have s0 : a.eval (.tmp 42) = agv (wnL p) := hs 0 42 (by rfl) rfl
      exact op_enterW (ck8_1 ps) rfl (f := 25) (args := #[agv (wnL p)]) (by rw [run_call rfl enter25]; simp only [List.map_toArray, List.map_cons, List.map_nil, s0]; try rfl) ((c6 w).mono (fun e w' hh => ⟨_, hh.1, hK w' (fun D' _ _ => ⟨hSw.1.trans (hh.2.mono (Nat.le_trans l0 (Nat.le_of_lt hSw.2.1.lt))), hSw.2.1.later hh.2, trivial⟩)⟩))
    | 2, _, ho =>
      obtain rfl := Option.some.inj (ho.symm.trans (ck8_2 ps))
      have u1 : a.eval (.tmp 1) = .pointer (some ⟨g, 0, none⟩) := (hel 1 (by decide)).trans e1
      exact op_valW (ck8_2 ps) rfl (v := .pointer (some ⟨g, 2, none⟩)) (by unfold ck8O2 execOp; simp only [u1]; first | (go_simp; done) | (go_simp; with_reducible rfl)) (hK w (fun D' _ _ => hSw))
    | 3, _, ho =>
      obtain rfl := Option.some.inj (ho.symm.trans (ck8_3 ps))
      have s2 : a.eval (.tmp 44) = .pointer (some ⟨g, 2, none⟩) := hs 2 44 (by rfl) rfl
      have hcl := Box.cell hSw.2.1 2 rfl
      exact op_valW (ck8_3 ps) rfl (v := .int .i64 p.ed) (by unfold ck8O3 execOp; simp only [s2]; first | (go_simp; done) | (go_simp; with_reducible rfl)) (hK w (fun D' _ _ => hSw))
    | 4, _, ho =>
      obtain rfl := Option.some.inj (ho.symm.trans (ck8_4 ps))
      have s1 : a.eval (.tmp 43) = .int .i64 (p.l2 + p.sz) := hs 1 43 (by rfl) rfl
      have s3 : a.eval (.tmp 45) = .int .i64 p.ed := hs 3 45 (by rfl) rfl
      have hd := d1
      exact op_valW (ck8_4 ps) rfl (v := .bool false) (by unfold ck8O4 execOp; simp only [s1, s3]; first | (go_simp; done) | (go_simp; with_reducible rfl)) (hK w (fun D' _ _ => hSw))
    | 5, _, ho =>
      obtain rfl := Option.some.inj (ho.symm.trans (ck8_5 ps))
      have s4 : a.eval (.tmp 46) = .bool false := hs 4 46 (by rfl) rfl
      exact op_valW (ck8_5 ps) rfl (v := .bool false) (by unfold ck8O5 execOp; simp only [s4]; first | (go_simp; done) | (go_simp; with_reducible rfl)) (hK w (fun D' _ _ => hSw))
    | 6, _, ho =>
      obtain rfl := Option.some.inj (ho.symm.trans (ck8_6 ps))
      have s5 : a.eval (.tmp 47) = .bool false := hs 5 47 (by rfl) rfl
      have u1 : a.eval (.tmp 1) = .pointer (some ⟨g, 0, none⟩) := (hel 1 (by decide)).trans e1
      exact op_valW (ck8_6 ps) (by rw [wanted_of rfl (ck8_5 ps) rfl s5]; rfl) (v := .pointer (some ⟨g, 6, none⟩)) (by unfold ck8O6 execOp; simp only [u1]; first | (go_simp; done) | (go_simp; with_reducible rfl)) (hK w (fun D' _ _ => hSw))
    | 7, _, ho =>
      obtain rfl := Option.some.inj (ho.symm.trans (ck8_7 ps))
      have s6 : a.eval (.tmp 48) = .pointer (some ⟨g, 6, none⟩) := hs 6 48 (by rfl) rfl
      have s5 : a.eval (.tmp 47) = .bool false := hs 5 47 (by rfl) rfl
      have hcl := Box.cell hSw.2.1 6 rfl
      exact op_valW (ck8_7 ps) (by rw [wanted_of rfl (ck8_5 ps) rfl s5]; rfl) (v := .int .i64 p.tr) (by unfold ck8O7 execOp; simp only [s6]; first | (go_simp; done) | (go_simp; with_reducible rfl)) (hK w (fun D' _ _ => hSw))
    | 8, _, ho =>
      obtain rfl := Option.some.inj (ho.symm.trans (ck8_8 ps))
      have s7 : a.eval (.tmp 49) = .int .i64 p.tr := hs 7 49 (by rfl) rfl
      have s5 : a.eval (.tmp 47) = .bool false := hs 5 47 (by rfl) rfl
      have hd := d2
      exact op_valW (ck8_8 ps) (by rw [wanted_of rfl (ck8_5 ps) rfl s5]; rfl) (v := .bool true) (by unfold ck8O8 execOp; simp only [s7]; first | (go_simp; done) | (go_simp; with_reducible rfl)) (hK w (fun D' _ _ => hSw))
    | 9, _, ho =>
      obtain rfl := Option.some.inj (ho.symm.trans (ck8_9 ps))
      have s5 : a.eval (.tmp 47) = .bool false := hs 5 47 (by rfl) rfl
      have s8 : a.eval (.tmp 50) = .bool true := hs 8 50 (by rfl) rfl
      exact op_valW (ck8_9 ps) rfl (v := .bool true) (by unfold ck8O9 execOp; simp only [s5, s8]; first | (go_simp; done) | (go_simp; with_reducible rfl)) (hK w (fun D' _ _ => hSw))
    | 10, _, ho =>
      obtain rfl := Option.some.inj (ho.symm.trans (ck8_10 ps))
      have s9 : a.eval (.tmp 51) = .bool true := hs 9 51 (by rfl) rfl
      exact op_valW (ck8_10 ps) rfl (v := .bool true) (by unfold ck8O10 execOp; simp only [s9]; first | (go_simp; done) | (go_simp; with_reducible rfl)) (hK w (fun D' _ _ => hSw))
    | 11, _, ho =>
      obtain rfl := Option.some.inj (ho.symm.trans (ck8_11 ps))
      have s10 : a.eval (.tmp 52) = .bool true := hs 10 52 (by rfl) rfl
      have u1 : a.eval (.tmp 1) = .pointer (some ⟨g, 0, none⟩) := (hel 1 (by decide)).trans e1
      exact op_skip (ck8_11 ps) (by rw [wanted_of rfl (ck8_10 ps) rfl s10]; rfl) (hK w (fun D' _ _ => hSw))
    | 12, _, ho =>
      obtain rfl := Option.some.inj (ho.symm.trans (ck8_12 ps))
      have s11 : a.eval (.tmp 53) = undef := hs 11 53 (by rfl) rfl
      have s10 : a.eval (.tmp 52) = .bool true := hs 10 52 (by rfl) rfl
      exact op_skip (ck8_12 ps) (by rw [wanted_of rfl (ck8_10 ps) rfl s10]; rfl) (hK w (fun D' _ _ => hSw))
    | 13, _, ho =>
      obtain rfl := Option.some.inj (ho.symm.trans (ck8_13 ps))
      have s12 : a.eval (.tmp 54) = undef := hs 12 54 (by rfl) rfl
      have s10 : a.eval (.tmp 52) = .bool true := hs 10 52 (by rfl) rfl
      exact op_skip (ck8_13 ps) (by rw [wanted_of rfl (ck8_10 ps) rfl s10]; rfl) (hK w (fun D' _ _ => hSw))
    | 14, _, ho =>
      obtain rfl := Option.some.inj (ho.symm.trans (ck8_14 ps))
      have s10 : a.eval (.tmp 52) = .bool true := hs 10 52 (by rfl) rfl
      have s13 : a.eval (.tmp 55) = undef := hs 13 55 (by rfl) rfl
      exact op_valW (ck8_14 ps) rfl (v := .bool true) (by unfold ck8O14 execOp; simp only [s10, s13]; first | (go_simp; done) | (go_simp; with_reducible rfl)) (hK w (fun D' _ _ => hSw))
    | iq + 15, hin, _ => exact absurd hin (by omega)
def ck9O0 (ps : String) : Oper := { dst := some 42, op := .load 23 (.tmp 1), type := 23, pos := ps, after := #[], guard := none }
def ck9O1 (ps : String) : Oper := { dst := some 43, op := .call { callee := .value (.func 25), args := #[.tmp 42], argTypes := #[23] }, type := 3, pos := ps, after := #[{ on := 0, ground := .data }], guard := none }
def ck9O2 (ps : String) : Oper := { dst := some 44, op := .fieldAddr 23 (.tmp 1) 2, type := 0, pos := ps, after := #[], guard := none }
def ck9O3 (ps : String) : Oper := { dst := some 45, op := .load 3 (.tmp 44), type := 3, pos := ps, after := #[{ on := 2, ground := .data }], guard := none }
def ck9O4 (ps : String) : Oper := { dst := some 46, op := .binOp .gtr 3 (.tmp 43) (.tmp 45) 3, type := 4, pos := ps, after := #[{ on := 1, ground := .data }, { on := 3, ground := .data }], guard := none }
def ck9O5 (ps : String) : Oper := { dst := some 47, op := .move (.tmp 46), type := 4, pos := ps, after := #[{ on := 4, ground := .data }, { on := 1, ground := .chain }], guard := none }
def ck9O6 (ps : String) : Oper := { dst := some 48, op := .fieldAddr 23 (.tmp 1) 6, type := 0, pos := ps, after := #[{ on := 5, ground := .guard }], guard := some (5, false) }
def ck9O7 (ps : String) : Oper := { dst := some 49, op := .load 3 (.tmp 48), type := 3, pos := ps, after := #[{ on := 6, ground := .data }, { on := 5, ground := .guard }], guard := some (5, false) }
def ck9O8 (ps : String) : Oper := { dst := some 50, op := .binOp .lss 3 (.tmp 49) (.const (.int .i64 0)) 3, type := 4, pos := ps, after := #[{ on := 7, ground := .data }, { on := 5, ground := .guard }], guard := some (5, false) }
def ck9O9 (ps : String) : Oper := { dst := some 51, op := .pick (.tmp 47) (.const (.bool true)) (.tmp 50), type := 4, pos := ps, after := #[{ on := 5, ground := .data }, { on := 8, ground := .data }], guard := none }
def ck9O10 (ps : String) : Oper := { dst := some 52, op := .move (.tmp 51), type := 4, pos := ps, after := #[{ on := 9, ground := .data }, { on := 5, ground := .chain }], guard := none }
def ck9O11 (ps : String) : Oper := { dst := some 53, op := .fieldAddr 23 (.tmp 1) 6, type := 0, pos := ps, after := #[{ on := 10, ground := .guard }], guard := some (10, false) }
def ck9O12 (ps : String) : Oper := { dst := some 54, op := .load 3 (.tmp 53), type := 3, pos := ps, after := #[{ on := 11, ground := .data }, { on := 10, ground := .guard }], guard := some (10, false) }
def ck9O13 (ps : String) : Oper := { dst := some 55, op := .binOp .gtr 3 (.tmp 54) (.const (.int .i64 100)) 3, type := 4, pos := ps, after := #[{ on := 12, ground := .data }, { on := 10, ground := .guard }], guard := some (10, false) }
def ck9O14 (ps : String) : Oper := { dst := some 56, op := .pick (.tmp 52) (.const (.bool true)) (.tmp 55), type := 4, pos := ps, after := #[{ on := 10, ground := .data }, { on := 13, ground := .data }], guard := none }
def ck9 (ps : String) : Array Oper := #[ck9O0 ps, ck9O1 ps, ck9O2 ps, ck9O3 ps, ck9O4 ps, ck9O5 ps, ck9O6 ps, ck9O7 ps, ck9O8 ps, ck9O9 ps, ck9O10 ps, ck9O11 ps, ck9O12 ps, ck9O13 ps, ck9O14 ps]
theorem ck9_0 (ps : String) : (ck9 ps)[0]? = some (ck9O0 ps) := rfl
theorem ck9_1 (ps : String) : (ck9 ps)[1]? = some (ck9O1 ps) := rfl
theorem ck9_2 (ps : String) : (ck9 ps)[2]? = some (ck9O2 ps) := rfl
theorem ck9_3 (ps : String) : (ck9 ps)[3]? = some (ck9O3 ps) := rfl
theorem ck9_4 (ps : String) : (ck9 ps)[4]? = some (ck9O4 ps) := rfl
theorem ck9_5 (ps : String) : (ck9 ps)[5]? = some (ck9O5 ps) := rfl
theorem ck9_6 (ps : String) : (ck9 ps)[6]? = some (ck9O6 ps) := rfl
theorem ck9_7 (ps : String) : (ck9 ps)[7]? = some (ck9O7 ps) := rfl
theorem ck9_8 (ps : String) : (ck9 ps)[8]? = some (ck9O8 ps) := rfl
theorem ck9_9 (ps : String) : (ck9 ps)[9]? = some (ck9O9 ps) := rfl
theorem ck9_10 (ps : String) : (ck9 ps)[10]? = some (ck9O10 ps) := rfl
theorem ck9_11 (ps : String) : (ck9 ps)[11]? = some (ck9O11 ps) := rfl
theorem ck9_12 (ps : String) : (ck9 ps)[12]? = some (ck9O12 ps) := rfl
theorem ck9_13 (ps : String) : (ck9 ps)[13]? = some (ck9O13 ps) := rfl
theorem ck9_14 (ps : String) : (ck9 ps)[14]? = some (ck9O14 ps) := rfl
def ck9D : Nat → Option Tmp
  | 0 => some 42
  | 1 => some 43
  | 2 => some 44
  | 3 => some 45
  | 4 => some 46
  | 5 => some 47
  | 6 => some 48
  | 7 => some 49
  | 8 => some 50
  | 9 => some 51
  | 10 => some 52
  | 11 => some 53
  | 12 => some 54
  | 13 => some 55
  | 14 => some 56
  | _ => none
def ck9T (p : Wn) (g B0 : Nat) (WW : World) : Nat → Value
  | 0 => agv (wnL p)
  | 1 => .int .i64 (p.l2 + p.sz)
  | 2 => .pointer (some ⟨g, 2, none⟩)
  | 3 => .int .i64 p.ed
  | 4 => .bool false
  | 5 => .bool false
  | 6 => .pointer (some ⟨g, 6, none⟩)
  | 7 => .int .i64 p.tr
  | 8 => .bool false
  | 9 => .bool false
  | 10 => .bool false
  | 11 => .pointer (some ⟨g, 6, none⟩)
  | 12 => .int .i64 p.tr
  | 13 => .bool true
  | 14 => .bool true
  | _ => undef
set_option maxRecDepth 100000 in
set_option maxHeartbeats 4000000 in
theorem ck9_reg {ps : String} {Q : Exit → Act → World → Prop} {a0 : Act} {W0 : World} (sz : a0.tmps.size = 57) (p : Wn) (g B0 : Nat) (WW : World)
    (e1 : a0.eval (.tmp 1) = .pointer (some ⟨g, 0, none⟩))
    (l0 : B0 ≤ g) (hS0 : Below B0 WW W0 ∧ Box W0 g 23 (wnL p) ∧ True) (d1 : decide (p.ed < p.l2 + p.sz) = false) (d2 : decide (p.tr < 0) = false) (d3 : decide (100 < p.tr) = true) (c6 : ∀ W, Calls Try.prog 25 #[agv (wnL p)] W fun e w' => e = .returned (.int .i64 (p.l2 + p.sz)) ∧ Below W.heap.size W w') 
    (hfin : ∀ (T : Nat → Value) w, T 14 = .bool true → Below B0 WW w ∧ Box w g 23 (wnL p) ∧ True → Q .normal (((((((((((((((a0.put (some 42) (T 0)).put (some 43) (T 1)).put (some 44) (T 2)).put (some 45) (T 3)).put (some 46) (T 4)).put (some 47) (T 5)).put (some 48) (T 6)).put (some 49) (T 7)).put (some 50) (T 8)).put (some 51) (T 9)).put (some 52) (T 10)).put (some 53) (T 11)).put (some 54) (T 12)).put (some 55) (T 13)).put (some 56) (T 14)) w) :
    (Code.region 5 (ck9 ps) true).wp Try.prog Q a0 W0 := by
  refine wp_region_dets (by kernel_rfl) 15 rfl ck9D ?_ (by decide) (ck9T p g B0 WW) (fun D w => Below B0 WW w ∧ Box w g 23 (wnL p) ∧ True) (fun D _ => ⟨hS0.1.drew, hS0.2.1, trivial⟩) ?_ (by rfl) (fun w D _ hSw => hfin (ck9T p g B0 WW) w rfl hSw)
  · intro jq t hj ht
    have : ∀ j, j < 15 → (ck9D j).all (· < 57) = true := by decide
    have := this jq hj
    rw [ht] at this
    rw [sz]
    simpa using this
  · intro iq o ho D a w hSw hDi hcl hs hel K hK
    have hin : iq < 15 := (Array.getElem?_eq_some_iff.1 ho).1
    match iq, hin, ho with
    | 0, _, ho =>
      obtain rfl := Option.some.inj (ho.symm.trans (ck9_0 ps))
      have u1 : a.eval (.tmp 1) = .pointer (some ⟨g, 0, none⟩) := (hel 1 (by decide)).trans e1
      exact op_valW (ck9_0 ps) rfl (v := agv (wnL p)) (run_loadS isS23 rfl u1 hSw.2.1) (hK w (fun D' _ _ => hSw))
    | 1, _, ho =>
      obtain rfl := Option.some.inj (ho.symm.trans (ck9_1 ps))
      have s0 : a.eval (.tmp 42) = agv (wnL p) := hs 0 42 (by rfl) rfl
      exact op_enterW (ck9_1 ps) rfl (f := 25) (args := #[agv (wnL p)]) (by rw [run_call rfl enter25]; simp only [List.map_toArray, List.map_cons, List.map_nil, s0]; try rfl) ((c6 w).mono (fun e w' hh => ⟨_, hh.1, hK w' (fun D' _ _ => ⟨hSw.1.trans (hh.2.mono (Nat.le_trans l0 (Nat.le_of_lt hSw.2.1.lt))), hSw.2.1.later hh.2, trivial⟩)⟩))
    | 2, _, ho =>
      obtain rfl := Option.some.inj (ho.symm.trans (ck9_2 ps))
      have u1 : a.eval (.tmp 1) = .pointer (some ⟨g, 0, none⟩) := (hel 1 (by decide)).trans e1
      exact op_valW (ck9_2 ps) rfl (v := .pointer (some ⟨g, 2, none⟩)) (by unfold ck9O2 execOp; simp only [u1]; first | (go_simp; done) | (go_simp; with_reducible rfl)) (hK w (fun D' _ _ => hSw))
    | 3, _, ho =>
      obtain rfl := Option.some.inj (ho.symm.trans (ck9_3 ps))
      have s2 : a.eval (.tmp 44) = .pointer (some ⟨g, 2, none⟩) := hs 2 44 (by rfl) rfl
      have hcl := Box.cell hSw.2.1 2 rfl
      exact op_valW (ck9_3 ps) rfl (v := .int .i64 p.ed) (by unfold ck9O3 execOp; simp only [s2]; first | (go_simp; done) | (go_simp; with_reducible rfl)) (hK w (fun D' _ _ => hSw))
    | 4, _, ho =>
      obtain rfl := Option.some.inj (ho.symm.trans (ck9_4 ps))
      have s1 : a.eval (.tmp 43) = .int .i64 (p.l2 + p.sz) := hs 1 43 (by rfl) rfl
      have s3 : a.eval (.tmp 45) = .int .i64 p.ed := hs 3 45 (by rfl) rfl
      have hd := d1
      exact op_valW (ck9_4 ps) rfl (v := .bool false) (by unfold ck9O4 execOp; simp only [s1, s3]; first | (go_simp; done) | (go_simp; with_reducible rfl)) (hK w (fun D' _ _ => hSw))
    | 5, _, ho =>
      obtain rfl := Option.some.inj (ho.symm.trans (ck9_5 ps))
      have s4 : a.eval (.tmp 46) = .bool false := hs 4 46 (by rfl) rfl
      exact op_valW (ck9_5 ps) rfl (v := .bool false) (by unfold ck9O5 execOp; simp only [s4]; first | (go_simp; done) | (go_simp; with_reducible rfl)) (hK w (fun D' _ _ => hSw))
    | 6, _, ho =>
      obtain rfl := Option.some.inj (ho.symm.trans (ck9_6 ps))
      have s5 : a.eval (.tmp 47) = .bool false := hs 5 47 (by rfl) rfl
      have u1 : a.eval (.tmp 1) = .pointer (some ⟨g, 0, none⟩) := (hel 1 (by decide)).trans e1
      exact op_valW (ck9_6 ps) (by rw [wanted_of rfl (ck9_5 ps) rfl s5]; rfl) (v := .pointer (some ⟨g, 6, none⟩)) (by unfold ck9O6 execOp; simp only [u1]; first | (go_simp; done) | (go_simp; with_reducible rfl)) (hK w (fun D' _ _ => hSw))
    | 7, _, ho =>
      obtain rfl := Option.some.inj (ho.symm.trans (ck9_7 ps))
      have s6 : a.eval (.tmp 48) = .pointer (some ⟨g, 6, none⟩) := hs 6 48 (by rfl) rfl
      have s5 : a.eval (.tmp 47) = .bool false := hs 5 47 (by rfl) rfl
      have hcl := Box.cell hSw.2.1 6 rfl
      exact op_valW (ck9_7 ps) (by rw [wanted_of rfl (ck9_5 ps) rfl s5]; rfl) (v := .int .i64 p.tr) (by unfold ck9O7 execOp; simp only [s6]; first | (go_simp; done) | (go_simp; with_reducible rfl)) (hK w (fun D' _ _ => hSw))
    | 8, _, ho =>
      obtain rfl := Option.some.inj (ho.symm.trans (ck9_8 ps))
      have s7 : a.eval (.tmp 49) = .int .i64 p.tr := hs 7 49 (by rfl) rfl
      have s5 : a.eval (.tmp 47) = .bool false := hs 5 47 (by rfl) rfl
      have hd := d2
      exact op_valW (ck9_8 ps) (by rw [wanted_of rfl (ck9_5 ps) rfl s5]; rfl) (v := .bool false) (by unfold ck9O8 execOp; simp only [s7]; first | (go_simp; done) | (go_simp; with_reducible rfl)) (hK w (fun D' _ _ => hSw))
    | 9, _, ho =>
      obtain rfl := Option.some.inj (ho.symm.trans (ck9_9 ps))
      have s5 : a.eval (.tmp 47) = .bool false := hs 5 47 (by rfl) rfl
      have s8 : a.eval (.tmp 50) = .bool false := hs 8 50 (by rfl) rfl
      exact op_valW (ck9_9 ps) rfl (v := .bool false) (by unfold ck9O9 execOp; simp only [s5, s8]; first | (go_simp; done) | (go_simp; with_reducible rfl)) (hK w (fun D' _ _ => hSw))
    | 10, _, ho =>
      obtain rfl := Option.some.inj (ho.symm.trans (ck9_10 ps))
      have s9 : a.eval (.tmp 51) = .bool false := hs 9 51 (by rfl) rfl
      exact op_valW (ck9_10 ps) rfl (v := .bool false) (by unfold ck9O10 execOp; simp only [s9]; first | (go_simp; done) | (go_simp; with_reducible rfl)) (hK w (fun D' _ _ => hSw))
    | 11, _, ho =>
      obtain rfl := Option.some.inj (ho.symm.trans (ck9_11 ps))
      have s10 : a.eval (.tmp 52) = .bool false := hs 10 52 (by rfl) rfl
      have u1 : a.eval (.tmp 1) = .pointer (some ⟨g, 0, none⟩) := (hel 1 (by decide)).trans e1
      exact op_valW (ck9_11 ps) (by rw [wanted_of rfl (ck9_10 ps) rfl s10]; rfl) (v := .pointer (some ⟨g, 6, none⟩)) (by unfold ck9O11 execOp; simp only [u1]; first | (go_simp; done) | (go_simp; with_reducible rfl)) (hK w (fun D' _ _ => hSw))
    | 12, _, ho =>
      obtain rfl := Option.some.inj (ho.symm.trans (ck9_12 ps))
      have s11 : a.eval (.tmp 53) = .pointer (some ⟨g, 6, none⟩) := hs 11 53 (by rfl) rfl
      have s10 : a.eval (.tmp 52) = .bool false := hs 10 52 (by rfl) rfl
      have hcl := Box.cell hSw.2.1 6 rfl
      exact op_valW (ck9_12 ps) (by rw [wanted_of rfl (ck9_10 ps) rfl s10]; rfl) (v := .int .i64 p.tr) (by unfold ck9O12 execOp; simp only [s11]; first | (go_simp; done) | (go_simp; with_reducible rfl)) (hK w (fun D' _ _ => hSw))
    | 13, _, ho =>
      obtain rfl := Option.some.inj (ho.symm.trans (ck9_13 ps))
      have s12 : a.eval (.tmp 54) = .int .i64 p.tr := hs 12 54 (by rfl) rfl
      have s10 : a.eval (.tmp 52) = .bool false := hs 10 52 (by rfl) rfl
      have hd := d3
      exact op_valW (ck9_13 ps) (by rw [wanted_of rfl (ck9_10 ps) rfl s10]; rfl) (v := .bool true) (by unfold ck9O13 execOp; simp only [s12]; first | (go_simp; done) | (go_simp; with_reducible rfl)) (hK w (fun D' _ _ => hSw))
    | 14, _, ho =>
      obtain rfl := Option.some.inj (ho.symm.trans (ck9_14 ps))
      have s10 : a.eval (.tmp 52) = .bool false := hs 10 52 (by rfl) rfl
      have s13 : a.eval (.tmp 55) = .bool true := hs 13 55 (by rfl) rfl
      exact op_valW (ck9_14 ps) rfl (v := .bool true) (by unfold ck9O14 execOp; simp only [s10, s13]; first | (go_simp; done) | (go_simp; with_reducible rfl)) (hK w (fun D' _ _ => hSw))
    | iq + 15, hin, _ => exact absurd hin (by omega)
def ck10O0 (ps : String) : Oper := { dst := some 42, op := .load 23 (.tmp 1), type := 23, pos := ps, after := #[], guard := none }
def ck10O1 (ps : String) : Oper := { dst := some 43, op := .call { callee := .value (.func 25), args := #[.tmp 42], argTypes := #[23] }, type := 3, pos := ps, after := #[{ on := 0, ground := .data }], guard := none }
def ck10O2 (ps : String) : Oper := { dst := some 44, op := .fieldAddr 23 (.tmp 1) 2, type := 0, pos := ps, after := #[], guard := none }
def ck10O3 (ps : String) : Oper := { dst := some 45, op := .load 3 (.tmp 44), type := 3, pos := ps, after := #[{ on := 2, ground := .data }], guard := none }
def ck10O4 (ps : String) : Oper := { dst := some 46, op := .binOp .gtr 3 (.tmp 43) (.tmp 45) 3, type := 4, pos := ps, after := #[{ on := 1, ground := .data }, { on := 3, ground := .data }], guard := none }
def ck10O5 (ps : String) : Oper := { dst := some 47, op := .move (.tmp 46), type := 4, pos := ps, after := #[{ on := 4, ground := .data }, { on := 1, ground := .chain }], guard := none }
def ck10O6 (ps : String) : Oper := { dst := some 48, op := .fieldAddr 23 (.tmp 1) 6, type := 0, pos := ps, after := #[{ on := 5, ground := .guard }], guard := some (5, false) }
def ck10O7 (ps : String) : Oper := { dst := some 49, op := .load 3 (.tmp 48), type := 3, pos := ps, after := #[{ on := 6, ground := .data }, { on := 5, ground := .guard }], guard := some (5, false) }
def ck10O8 (ps : String) : Oper := { dst := some 50, op := .binOp .lss 3 (.tmp 49) (.const (.int .i64 0)) 3, type := 4, pos := ps, after := #[{ on := 7, ground := .data }, { on := 5, ground := .guard }], guard := some (5, false) }
def ck10O9 (ps : String) : Oper := { dst := some 51, op := .pick (.tmp 47) (.const (.bool true)) (.tmp 50), type := 4, pos := ps, after := #[{ on := 5, ground := .data }, { on := 8, ground := .data }], guard := none }
def ck10O10 (ps : String) : Oper := { dst := some 52, op := .move (.tmp 51), type := 4, pos := ps, after := #[{ on := 9, ground := .data }, { on := 5, ground := .chain }], guard := none }
def ck10O11 (ps : String) : Oper := { dst := some 53, op := .fieldAddr 23 (.tmp 1) 6, type := 0, pos := ps, after := #[{ on := 10, ground := .guard }], guard := some (10, false) }
def ck10O12 (ps : String) : Oper := { dst := some 54, op := .load 3 (.tmp 53), type := 3, pos := ps, after := #[{ on := 11, ground := .data }, { on := 10, ground := .guard }], guard := some (10, false) }
def ck10O13 (ps : String) : Oper := { dst := some 55, op := .binOp .gtr 3 (.tmp 54) (.const (.int .i64 100)) 3, type := 4, pos := ps, after := #[{ on := 12, ground := .data }, { on := 10, ground := .guard }], guard := some (10, false) }
def ck10O14 (ps : String) : Oper := { dst := some 56, op := .pick (.tmp 52) (.const (.bool true)) (.tmp 55), type := 4, pos := ps, after := #[{ on := 10, ground := .data }, { on := 13, ground := .data }], guard := none }
def ck10 (ps : String) : Array Oper := #[ck10O0 ps, ck10O1 ps, ck10O2 ps, ck10O3 ps, ck10O4 ps, ck10O5 ps, ck10O6 ps, ck10O7 ps, ck10O8 ps, ck10O9 ps, ck10O10 ps, ck10O11 ps, ck10O12 ps, ck10O13 ps, ck10O14 ps]
theorem ck10_0 (ps : String) : (ck10 ps)[0]? = some (ck10O0 ps) := rfl
theorem ck10_1 (ps : String) : (ck10 ps)[1]? = some (ck10O1 ps) := rfl
theorem ck10_2 (ps : String) : (ck10 ps)[2]? = some (ck10O2 ps) := rfl
theorem ck10_3 (ps : String) : (ck10 ps)[3]? = some (ck10O3 ps) := rfl
theorem ck10_4 (ps : String) : (ck10 ps)[4]? = some (ck10O4 ps) := rfl
theorem ck10_5 (ps : String) : (ck10 ps)[5]? = some (ck10O5 ps) := rfl
theorem ck10_6 (ps : String) : (ck10 ps)[6]? = some (ck10O6 ps) := rfl
theorem ck10_7 (ps : String) : (ck10 ps)[7]? = some (ck10O7 ps) := rfl
theorem ck10_8 (ps : String) : (ck10 ps)[8]? = some (ck10O8 ps) := rfl
theorem ck10_9 (ps : String) : (ck10 ps)[9]? = some (ck10O9 ps) := rfl
theorem ck10_10 (ps : String) : (ck10 ps)[10]? = some (ck10O10 ps) := rfl
theorem ck10_11 (ps : String) : (ck10 ps)[11]? = some (ck10O11 ps) := rfl
theorem ck10_12 (ps : String) : (ck10 ps)[12]? = some (ck10O12 ps) := rfl
theorem ck10_13 (ps : String) : (ck10 ps)[13]? = some (ck10O13 ps) := rfl
theorem ck10_14 (ps : String) : (ck10 ps)[14]? = some (ck10O14 ps) := rfl
def ck10D : Nat → Option Tmp
  | 0 => some 42
  | 1 => some 43
  | 2 => some 44
  | 3 => some 45
  | 4 => some 46
  | 5 => some 47
  | 6 => some 48
  | 7 => some 49
  | 8 => some 50
  | 9 => some 51
  | 10 => some 52
  | 11 => some 53
  | 12 => some 54
  | 13 => some 55
  | 14 => some 56
  | _ => none
def ck10T (p : Wn) (g B0 : Nat) (WW : World) : Nat → Value
  | 0 => agv (wnL p)
  | 1 => .int .i64 (p.l2 + p.sz)
  | 2 => .pointer (some ⟨g, 2, none⟩)
  | 3 => .int .i64 p.ed
  | 4 => .bool false
  | 5 => .bool false
  | 6 => .pointer (some ⟨g, 6, none⟩)
  | 7 => .int .i64 p.tr
  | 8 => .bool false
  | 9 => .bool false
  | 10 => .bool false
  | 11 => .pointer (some ⟨g, 6, none⟩)
  | 12 => .int .i64 p.tr
  | 13 => .bool false
  | 14 => .bool false
  | _ => undef
set_option maxRecDepth 100000 in
set_option maxHeartbeats 4000000 in
theorem ck10_reg {ps : String} {Q : Exit → Act → World → Prop} {a0 : Act} {W0 : World} (sz : a0.tmps.size = 57) (p : Wn) (g B0 : Nat) (WW : World)
    (e1 : a0.eval (.tmp 1) = .pointer (some ⟨g, 0, none⟩))
    (l0 : B0 ≤ g) (hS0 : Below B0 WW W0 ∧ Box W0 g 23 (wnL p) ∧ True) (d1 : decide (p.ed < p.l2 + p.sz) = false) (d2 : decide (p.tr < 0) = false) (d3 : decide (100 < p.tr) = false) (c6 : ∀ W, Calls Try.prog 25 #[agv (wnL p)] W fun e w' => e = .returned (.int .i64 (p.l2 + p.sz)) ∧ Below W.heap.size W w') 
    (hfin : ∀ (T : Nat → Value) w, T 14 = .bool false → Below B0 WW w ∧ Box w g 23 (wnL p) ∧ True → Q .normal (((((((((((((((a0.put (some 42) (T 0)).put (some 43) (T 1)).put (some 44) (T 2)).put (some 45) (T 3)).put (some 46) (T 4)).put (some 47) (T 5)).put (some 48) (T 6)).put (some 49) (T 7)).put (some 50) (T 8)).put (some 51) (T 9)).put (some 52) (T 10)).put (some 53) (T 11)).put (some 54) (T 12)).put (some 55) (T 13)).put (some 56) (T 14)) w) :
    (Code.region 5 (ck10 ps) true).wp Try.prog Q a0 W0 := by
  refine wp_region_dets (by kernel_rfl) 15 rfl ck10D ?_ (by decide) (ck10T p g B0 WW) (fun D w => Below B0 WW w ∧ Box w g 23 (wnL p) ∧ True) (fun D _ => ⟨hS0.1.drew, hS0.2.1, trivial⟩) ?_ (by rfl) (fun w D _ hSw => hfin (ck10T p g B0 WW) w rfl hSw)
  · intro jq t hj ht
    have : ∀ j, j < 15 → (ck10D j).all (· < 57) = true := by decide
    have := this jq hj
    rw [ht] at this
    rw [sz]
    simpa using this
  · intro iq o ho D a w hSw hDi hcl hs hel K hK
    have hin : iq < 15 := (Array.getElem?_eq_some_iff.1 ho).1
    match iq, hin, ho with
    | 0, _, ho =>
      obtain rfl := Option.some.inj (ho.symm.trans (ck10_0 ps))
      have u1 : a.eval (.tmp 1) = .pointer (some ⟨g, 0, none⟩) := (hel 1 (by decide)).trans e1
      exact op_valW (ck10_0 ps) rfl (v := agv (wnL p)) (run_loadS isS23 rfl u1 hSw.2.1) (hK w (fun D' _ _ => hSw))
    | 1, _, ho =>
      obtain rfl := Option.some.inj (ho.symm.trans (ck10_1 ps))
      have s0 : a.eval (.tmp 42) = agv (wnL p) := hs 0 42 (by rfl) rfl
      exact op_enterW (ck10_1 ps) rfl (f := 25) (args := #[agv (wnL p)]) (by rw [run_call rfl enter25]; simp only [List.map_toArray, List.map_cons, List.map_nil, s0]; try rfl) ((c6 w).mono (fun e w' hh => ⟨_, hh.1, hK w' (fun D' _ _ => ⟨hSw.1.trans (hh.2.mono (Nat.le_trans l0 (Nat.le_of_lt hSw.2.1.lt))), hSw.2.1.later hh.2, trivial⟩)⟩))
    | 2, _, ho =>
      obtain rfl := Option.some.inj (ho.symm.trans (ck10_2 ps))
      have u1 : a.eval (.tmp 1) = .pointer (some ⟨g, 0, none⟩) := (hel 1 (by decide)).trans e1
      exact op_valW (ck10_2 ps) rfl (v := .pointer (some ⟨g, 2, none⟩)) (by unfold ck10O2 execOp; simp only [u1]; first | (go_simp; done) | (go_simp; with_reducible rfl)) (hK w (fun D' _ _ => hSw))
    | 3, _, ho =>
      obtain rfl := Option.some.inj (ho.symm.trans (ck10_3 ps))
      have s2 : a.eval (.tmp 44) = .pointer (some ⟨g, 2, none⟩) := hs 2 44 (by rfl) rfl
      have hcl := Box.cell hSw.2.1 2 rfl
      exact op_valW (ck10_3 ps) rfl (v := .int .i64 p.ed) (by unfold ck10O3 execOp; simp only [s2]; first | (go_simp; done) | (go_simp; with_reducible rfl)) (hK w (fun D' _ _ => hSw))
    | 4, _, ho =>
      obtain rfl := Option.some.inj (ho.symm.trans (ck10_4 ps))
      have s1 : a.eval (.tmp 43) = .int .i64 (p.l2 + p.sz) := hs 1 43 (by rfl) rfl
      have s3 : a.eval (.tmp 45) = .int .i64 p.ed := hs 3 45 (by rfl) rfl
      have hd := d1
      exact op_valW (ck10_4 ps) rfl (v := .bool false) (by unfold ck10O4 execOp; simp only [s1, s3]; first | (go_simp; done) | (go_simp; with_reducible rfl)) (hK w (fun D' _ _ => hSw))
    | 5, _, ho =>
      obtain rfl := Option.some.inj (ho.symm.trans (ck10_5 ps))
      have s4 : a.eval (.tmp 46) = .bool false := hs 4 46 (by rfl) rfl
      exact op_valW (ck10_5 ps) rfl (v := .bool false) (by unfold ck10O5 execOp; simp only [s4]; first | (go_simp; done) | (go_simp; with_reducible rfl)) (hK w (fun D' _ _ => hSw))
    | 6, _, ho =>
      obtain rfl := Option.some.inj (ho.symm.trans (ck10_6 ps))
      have s5 : a.eval (.tmp 47) = .bool false := hs 5 47 (by rfl) rfl
      have u1 : a.eval (.tmp 1) = .pointer (some ⟨g, 0, none⟩) := (hel 1 (by decide)).trans e1
      exact op_valW (ck10_6 ps) (by rw [wanted_of rfl (ck10_5 ps) rfl s5]; rfl) (v := .pointer (some ⟨g, 6, none⟩)) (by unfold ck10O6 execOp; simp only [u1]; first | (go_simp; done) | (go_simp; with_reducible rfl)) (hK w (fun D' _ _ => hSw))
    | 7, _, ho =>
      obtain rfl := Option.some.inj (ho.symm.trans (ck10_7 ps))
      have s6 : a.eval (.tmp 48) = .pointer (some ⟨g, 6, none⟩) := hs 6 48 (by rfl) rfl
      have s5 : a.eval (.tmp 47) = .bool false := hs 5 47 (by rfl) rfl
      have hcl := Box.cell hSw.2.1 6 rfl
      exact op_valW (ck10_7 ps) (by rw [wanted_of rfl (ck10_5 ps) rfl s5]; rfl) (v := .int .i64 p.tr) (by unfold ck10O7 execOp; simp only [s6]; first | (go_simp; done) | (go_simp; with_reducible rfl)) (hK w (fun D' _ _ => hSw))
    | 8, _, ho =>
      obtain rfl := Option.some.inj (ho.symm.trans (ck10_8 ps))
      have s7 : a.eval (.tmp 49) = .int .i64 p.tr := hs 7 49 (by rfl) rfl
      have s5 : a.eval (.tmp 47) = .bool false := hs 5 47 (by rfl) rfl
      have hd := d2
      exact op_valW (ck10_8 ps) (by rw [wanted_of rfl (ck10_5 ps) rfl s5]; rfl) (v := .bool false) (by unfold ck10O8 execOp; simp only [s7]; first | (go_simp; done) | (go_simp; with_reducible rfl)) (hK w (fun D' _ _ => hSw))
    | 9, _, ho =>
      obtain rfl := Option.some.inj (ho.symm.trans (ck10_9 ps))
      have s5 : a.eval (.tmp 47) = .bool false := hs 5 47 (by rfl) rfl
      have s8 : a.eval (.tmp 50) = .bool false := hs 8 50 (by rfl) rfl
      exact op_valW (ck10_9 ps) rfl (v := .bool false) (by unfold ck10O9 execOp; simp only [s5, s8]; first | (go_simp; done) | (go_simp; with_reducible rfl)) (hK w (fun D' _ _ => hSw))
    | 10, _, ho =>
      obtain rfl := Option.some.inj (ho.symm.trans (ck10_10 ps))
      have s9 : a.eval (.tmp 51) = .bool false := hs 9 51 (by rfl) rfl
      exact op_valW (ck10_10 ps) rfl (v := .bool false) (by unfold ck10O10 execOp; simp only [s9]; first | (go_simp; done) | (go_simp; with_reducible rfl)) (hK w (fun D' _ _ => hSw))
    | 11, _, ho =>
      obtain rfl := Option.some.inj (ho.symm.trans (ck10_11 ps))
      have s10 : a.eval (.tmp 52) = .bool false := hs 10 52 (by rfl) rfl
      have u1 : a.eval (.tmp 1) = .pointer (some ⟨g, 0, none⟩) := (hel 1 (by decide)).trans e1
      exact op_valW (ck10_11 ps) (by rw [wanted_of rfl (ck10_10 ps) rfl s10]; rfl) (v := .pointer (some ⟨g, 6, none⟩)) (by unfold ck10O11 execOp; simp only [u1]; first | (go_simp; done) | (go_simp; with_reducible rfl)) (hK w (fun D' _ _ => hSw))
    | 12, _, ho =>
      obtain rfl := Option.some.inj (ho.symm.trans (ck10_12 ps))
      have s11 : a.eval (.tmp 53) = .pointer (some ⟨g, 6, none⟩) := hs 11 53 (by rfl) rfl
      have s10 : a.eval (.tmp 52) = .bool false := hs 10 52 (by rfl) rfl
      have hcl := Box.cell hSw.2.1 6 rfl
      exact op_valW (ck10_12 ps) (by rw [wanted_of rfl (ck10_10 ps) rfl s10]; rfl) (v := .int .i64 p.tr) (by unfold ck10O12 execOp; simp only [s11]; first | (go_simp; done) | (go_simp; with_reducible rfl)) (hK w (fun D' _ _ => hSw))
    | 13, _, ho =>
      obtain rfl := Option.some.inj (ho.symm.trans (ck10_13 ps))
      have s12 : a.eval (.tmp 54) = .int .i64 p.tr := hs 12 54 (by rfl) rfl
      have s10 : a.eval (.tmp 52) = .bool false := hs 10 52 (by rfl) rfl
      have hd := d3
      exact op_valW (ck10_13 ps) (by rw [wanted_of rfl (ck10_10 ps) rfl s10]; rfl) (v := .bool false) (by unfold ck10O13 execOp; simp only [s12]; first | (go_simp; done) | (go_simp; with_reducible rfl)) (hK w (fun D' _ _ => hSw))
    | 14, _, ho =>
      obtain rfl := Option.some.inj (ho.symm.trans (ck10_14 ps))
      have s10 : a.eval (.tmp 52) = .bool false := hs 10 52 (by rfl) rfl
      have s13 : a.eval (.tmp 55) = .bool false := hs 13 55 (by rfl) rfl
      exact op_valW (ck10_14 ps) rfl (v := .bool false) (by unfold ck10O14 execOp; simp only [s10, s13]; first | (go_simp; done) | (go_simp; with_reducible rfl)) (hK w (fun D' _ _ => hSw))
    | iq + 15, hin, _ => exact absurd hin (by omega)

set_option maxRecDepth 100000 in
set_option maxHeartbeats 4000000 in
theorem chk_0 (p : Wn) (c0 : ∀ W, Calls Try.prog 23 #[.int .i64 p.un] W fun e w' => e = .returned (.bool false) ∧ w' = W)  (w : World) : Calls Try.prog 8 #[agv (wnL p)] w fun e w' => e = .returned (.int .i64 230) ∧ Below w.heap.size w w' := by
  go_enter Try.func8, Try.ntmps8
  go_wp2_with (first | (refine wpS_box rfl rfl rfl ?_))
  intro X1 g HN
  have HX1 : Hid (Below w.heap.size w X1 ∧ Box X1 g 23 (wnL p) ∧ w.heap.size ≤ g ∧ True) := by
    have hb := Below.refl w.heap.size w
    obtain ⟨hg, hb2, bn⟩ := HN.out
    have hz := hb.size
    exact ⟨Below.on hb hb2, bn, by omega, trivial⟩
  clear HN 
  have k0 := Box.cell (HX1.out.2.1) 0 rfl
  have k1 := Box.cell (HX1.out.2.1) 1 rfl
  have k2 := Box.cell (HX1.out.2.1) 2 rfl
  have k3 := Box.cell (HX1.out.2.1) 3 rfl
  have k4 := Box.cell (HX1.out.2.1) 4 rfl
  have k5 := Box.cell (HX1.out.2.1) 5 rfl
  have k6 := Box.cell (HX1.out.2.1) 6 rfl
  go_wp2_with fail
  refine (c0 _).mono ?_
  rintro e w' ⟨rfl, hq⟩
  obtain rfl := hq.symm
  clear hq
  go_wp2_with fail
  go_ret
  exact ⟨rfl, HX1.out.1⟩

set_option maxRecDepth 100000 in
set_option maxHeartbeats 4000000 in
theorem chk_1 (p : Wn) (c0 : ∀ W, Calls Try.prog 23 #[.int .i64 p.un] W fun e w' => e = .returned (.bool true) ∧ w' = W) (c1 : ∀ W, Calls Try.prog 23 #[.int .i64 p.ed] W fun e w' => e = .returned (.bool false) ∧ w' = W)  (w : World) : Calls Try.prog 8 #[agv (wnL p)] w fun e w' => e = .returned (.int .i64 230) ∧ Below w.heap.size w w' := by
  go_enter Try.func8, Try.ntmps8
  go_wp2_with (first | (refine wpS_box rfl rfl rfl ?_))
  intro X1 g HN
  have HX1 : Hid (Below w.heap.size w X1 ∧ Box X1 g 23 (wnL p) ∧ w.heap.size ≤ g ∧ True) := by
    have hb := Below.refl w.heap.size w
    obtain ⟨hg, hb2, bn⟩ := HN.out
    have hz := hb.size
    exact ⟨Below.on hb hb2, bn, by omega, trivial⟩
  clear HN 
  have k0 := Box.cell (HX1.out.2.1) 0 rfl
  have k1 := Box.cell (HX1.out.2.1) 1 rfl
  have k2 := Box.cell (HX1.out.2.1) 2 rfl
  have k3 := Box.cell (HX1.out.2.1) 3 rfl
  have k4 := Box.cell (HX1.out.2.1) 4 rfl
  have k5 := Box.cell (HX1.out.2.1) 5 rfl
  have k6 := Box.cell (HX1.out.2.1) 6 rfl
  go_wp2_with fail
  refine (c0 _).mono ?_
  rintro e w' ⟨rfl, hq⟩
  obtain rfl := hq.symm
  clear hq
  go_wp2_with fail
  refine (c1 _).mono ?_
  rintro e w' ⟨rfl, hq⟩
  obtain rfl := hq.symm
  clear hq
  go_wp2_with fail
  go_ret
  exact ⟨rfl, HX1.out.1⟩

set_option maxRecDepth 100000 in
set_option maxHeartbeats 4000000 in
theorem chk_2 (p : Wn) (c0 : ∀ W, Calls Try.prog 23 #[.int .i64 p.un] W fun e w' => e = .returned (.bool true) ∧ w' = W) (c1 : ∀ W, Calls Try.prog 23 #[.int .i64 p.ed] W fun e w' => e = .returned (.bool true) ∧ w' = W) (c2 : ∀ W, Calls Try.prog 23 #[.int .i64 p.l1] W fun e w' => e = .returned (.bool false) ∧ w' = W)  (w : World) : Calls Try.prog 8 #[agv (wnL p)] w fun e w' => e = .returned (.int .i64 230) ∧ Below w.heap.size w w' := by
  go_enter Try.func8, Try.ntmps8
  go_wp2_with (first | (refine wpS_box rfl rfl rfl ?_))
  intro X1 g HN
  have HX1 : Hid (Below w.heap.size w X1 ∧ Box X1 g 23 (wnL p) ∧ w.heap.size ≤ g ∧ True) := by
    have hb := Below.refl w.heap.size w
    obtain ⟨hg, hb2, bn⟩ := HN.out
    have hz := hb.size
    exact ⟨Below.on hb hb2, bn, by omega, trivial⟩
  clear HN 
  have k0 := Box.cell (HX1.out.2.1) 0 rfl
  have k1 := Box.cell (HX1.out.2.1) 1 rfl
  have k2 := Box.cell (HX1.out.2.1) 2 rfl
  have k3 := Box.cell (HX1.out.2.1) 3 rfl
  have k4 := Box.cell (HX1.out.2.1) 4 rfl
  have k5 := Box.cell (HX1.out.2.1) 5 rfl
  have k6 := Box.cell (HX1.out.2.1) 6 rfl
  go_wp2_with fail
  refine (c0 _).mono ?_
  rintro e w' ⟨rfl, hq⟩
  obtain rfl := hq.symm
  clear hq
  go_wp2_with fail
  refine (c1 _).mono ?_
  rintro e w' ⟨rfl, hq⟩
  obtain rfl := hq.symm
  clear hq
  go_wp2_with fail
  refine (c2 _).mono ?_
  rintro e w' ⟨rfl, hq⟩
  obtain rfl := hq.symm
  clear hq
  go_wp2_with fail
  go_ret
  exact ⟨rfl, HX1.out.1⟩

set_option maxRecDepth 100000 in
set_option maxHeartbeats 4000000 in
theorem chk_3 (p : Wn) (c0 : ∀ W, Calls Try.prog 23 #[.int .i64 p.un] W fun e w' => e = .returned (.bool true) ∧ w' = W) (c1 : ∀ W, Calls Try.prog 23 #[.int .i64 p.ed] W fun e w' => e = .returned (.bool true) ∧ w' = W) (c2 : ∀ W, Calls Try.prog 23 #[.int .i64 p.l1] W fun e w' => e = .returned (.bool true) ∧ w' = W) (c3 : ∀ W, Calls Try.prog 23 #[.int .i64 p.l2] W fun e w' => e = .returned (.bool false) ∧ w' = W)  (w : World) : Calls Try.prog 8 #[agv (wnL p)] w fun e w' => e = .returned (.int .i64 230) ∧ Below w.heap.size w w' := by
  go_enter Try.func8, Try.ntmps8
  go_wp2_with (first | (refine wpS_box rfl rfl rfl ?_))
  intro X1 g HN
  have HX1 : Hid (Below w.heap.size w X1 ∧ Box X1 g 23 (wnL p) ∧ w.heap.size ≤ g ∧ True) := by
    have hb := Below.refl w.heap.size w
    obtain ⟨hg, hb2, bn⟩ := HN.out
    have hz := hb.size
    exact ⟨Below.on hb hb2, bn, by omega, trivial⟩
  clear HN 
  have k0 := Box.cell (HX1.out.2.1) 0 rfl
  have k1 := Box.cell (HX1.out.2.1) 1 rfl
  have k2 := Box.cell (HX1.out.2.1) 2 rfl
  have k3 := Box.cell (HX1.out.2.1) 3 rfl
  have k4 := Box.cell (HX1.out.2.1) 4 rfl
  have k5 := Box.cell (HX1.out.2.1) 5 rfl
  have k6 := Box.cell (HX1.out.2.1) 6 rfl
  go_wp2_with fail
  refine (c0 _).mono ?_
  rintro e w' ⟨rfl, hq⟩
  obtain rfl := hq.symm
  clear hq
  go_wp2_with fail
  refine (c1 _).mono ?_
  rintro e w' ⟨rfl, hq⟩
  obtain rfl := hq.symm
  clear hq
  go_wp2_with fail
  refine (c2 _).mono ?_
  rintro e w' ⟨rfl, hq⟩
  obtain rfl := hq.symm
  clear hq
  go_wp2_with fail
  refine (c3 _).mono ?_
  rintro e w' ⟨rfl, hq⟩
  obtain rfl := hq.symm
  clear hq
  go_wp2_with fail
  go_ret
  exact ⟨rfl, HX1.out.1⟩

set_option maxRecDepth 100000 in
set_option maxHeartbeats 4000000 in
theorem chk_4 (p : Wn) (c0 : ∀ W, Calls Try.prog 23 #[.int .i64 p.un] W fun e w' => e = .returned (.bool true) ∧ w' = W) (c1 : ∀ W, Calls Try.prog 23 #[.int .i64 p.ed] W fun e w' => e = .returned (.bool true) ∧ w' = W) (c2 : ∀ W, Calls Try.prog 23 #[.int .i64 p.l1] W fun e w' => e = .returned (.bool true) ∧ w' = W) (c3 : ∀ W, Calls Try.prog 23 #[.int .i64 p.l2] W fun e w' => e = .returned (.bool true) ∧ w' = W) (c4 : ∀ W, Calls Try.prog 24 #[.int .i64 p.sz] W fun e w' => e = .returned (.bool false) ∧ w' = W)  (w : World) : Calls Try.prog 8 #[agv (wnL p)] w fun e w' => e = .returned (.int .i64 230) ∧ Below w.heap.size w w' := by
  go_enter Try.func8, Try.ntmps8
  go_wp2_with (first | (refine wpS_box rfl rfl rfl ?_))
  intro X1 g HN
  have HX1 : Hid (Below w.heap.size w X1 ∧ Box X1 g 23 (wnL p) ∧ w.heap.size ≤ g ∧ True) := by
    have hb := Below.refl w.heap.size w
    obtain ⟨hg, hb2, bn⟩ := HN.out
    have hz := hb.size
    exact ⟨Below.on hb hb2, bn, by omega, trivial⟩
  clear HN 
  have k0 := Box.cell (HX1.out.2.1) 0 rfl
  have k1 := Box.cell (HX1.out.2.1) 1 rfl
  have k2 := Box.cell (HX1.out.2.1) 2 rfl
  have k3 := Box.cell (HX1.out.2.1) 3 rfl
  have k4 := Box.cell (HX1.out.2.1) 4 rfl
  have k5 := Box.cell (HX1.out.2.1) 5 rfl
  have k6 := Box.cell (HX1.out.2.1) 6 rfl
  go_wp2_with fail
  refine (c0 _).mono ?_
  rintro e w' ⟨rfl, hq⟩
  obtain rfl := hq.symm
  clear hq
  go_wp2_with fail
  refine (c1 _).mono ?_
  rintro e w' ⟨rfl, hq⟩
  obtain rfl := hq.symm
  clear hq
  go_wp2_with fail
  refine (c2 _).mono ?_
  rintro e w' ⟨rfl, hq⟩
  obtain rfl := hq.symm
  clear hq
  go_wp2_with fail
  refine (c3 _).mono ?_
  rintro e w' ⟨rfl, hq⟩
  obtain rfl := hq.symm
  clear hq
  go_wp2_with fail
  refine (c4 _).mono ?_
  rintro e w' ⟨rfl, hq⟩
  obtain rfl := hq.symm
  clear hq
  go_wp2_with fail
  go_ret
  exact ⟨rfl, HX1.out.1⟩

set_option maxRecDepth 100000 in
set_option maxHeartbeats 4000000 in
theorem chk_5 (p : Wn) (c0 : ∀ W, Calls Try.prog 23 #[.int .i64 p.un] W fun e w' => e = .returned (.bool true) ∧ w' = W) (c1 : ∀ W, Calls Try.prog 23 #[.int .i64 p.ed] W fun e w' => e = .returned (.bool true) ∧ w' = W) (c2 : ∀ W, Calls Try.prog 23 #[.int .i64 p.l1] W fun e w' => e = .returned (.bool true) ∧ w' = W) (c3 : ∀ W, Calls Try.prog 23 #[.int .i64 p.l2] W fun e w' => e = .returned (.bool true) ∧ w' = W) (c4 : ∀ W, Calls Try.prog 24 #[.int .i64 p.sz] W fun e w' => e = .returned (.bool true) ∧ w' = W) (c5 : ∀ W, Calls Try.prog 24 #[.int .i64 p.mo] W fun e w' => e = .returned (.bool false) ∧ w' = W)  (w : World) : Calls Try.prog 8 #[agv (wnL p)] w fun e w' => e = .returned (.int .i64 230) ∧ Below w.heap.size w w' := by
  go_enter Try.func8, Try.ntmps8
  go_wp2_with (first | (refine wpS_box rfl rfl rfl ?_))
  intro X1 g HN
  have HX1 : Hid (Below w.heap.size w X1 ∧ Box X1 g 23 (wnL p) ∧ w.heap.size ≤ g ∧ True) := by
    have hb := Below.refl w.heap.size w
    obtain ⟨hg, hb2, bn⟩ := HN.out
    have hz := hb.size
    exact ⟨Below.on hb hb2, bn, by omega, trivial⟩
  clear HN 
  have k0 := Box.cell (HX1.out.2.1) 0 rfl
  have k1 := Box.cell (HX1.out.2.1) 1 rfl
  have k2 := Box.cell (HX1.out.2.1) 2 rfl
  have k3 := Box.cell (HX1.out.2.1) 3 rfl
  have k4 := Box.cell (HX1.out.2.1) 4 rfl
  have k5 := Box.cell (HX1.out.2.1) 5 rfl
  have k6 := Box.cell (HX1.out.2.1) 6 rfl
  go_wp2_with fail
  refine (c0 _).mono ?_
  rintro e w' ⟨rfl, hq⟩
  obtain rfl := hq.symm
  clear hq
  go_wp2_with fail
  refine (c1 _).mono ?_
  rintro e w' ⟨rfl, hq⟩
  obtain rfl := hq.symm
  clear hq
  go_wp2_with fail
  refine (c2 _).mono ?_
  rintro e w' ⟨rfl, hq⟩
  obtain rfl := hq.symm
  clear hq
  go_wp2_with fail
  refine (c3 _).mono ?_
  rintro e w' ⟨rfl, hq⟩
  obtain rfl := hq.symm
  clear hq
  go_wp2_with fail
  refine (c4 _).mono ?_
  rintro e w' ⟨rfl, hq⟩
  obtain rfl := hq.symm
  clear hq
  go_wp2_with fail
  refine (c5 _).mono ?_
  rintro e w' ⟨rfl, hq⟩
  obtain rfl := hq.symm
  clear hq
  go_wp2_with fail
  go_ret
  exact ⟨rfl, HX1.out.1⟩

set_option maxRecDepth 100000 in
set_option maxHeartbeats 4000000 in
theorem chk_6 (p : Wn) (c0 : ∀ W, Calls Try.prog 23 #[.int .i64 p.un] W fun e w' => e = .returned (.bool true) ∧ w' = W) (c1 : ∀ W, Calls Try.prog 23 #[.int .i64 p.ed] W fun e w' => e = .returned (.bool true) ∧ w' = W) (c2 : ∀ W, Calls Try.prog 23 #[.int .i64 p.l1] W fun e w' => e = .returned (.bool true) ∧ w' = W) (c3 : ∀ W, Calls Try.prog 23 #[.int .i64 p.l2] W fun e w' => e = .returned (.bool true) ∧ w' = W) (c4 : ∀ W, Calls Try.prog 24 #[.int .i64 p.sz] W fun e w' => e = .returned (.bool true) ∧ w' = W) (c5 : ∀ W, Calls Try.prog 24 #[.int .i64 p.mo] W fun e w' => e = .returned (.bool true) ∧ w' = W) (h0 : p.mo < p.sz)  (w : World) : Calls Try.prog 8 #[agv (wnL p)] w fun e w' => e = .returned (.int .i64 230) ∧ Below w.heap.size w w' := by
  go_enter Try.func8, Try.ntmps8
  go_wp2_with (first | (refine wpS_box rfl rfl rfl ?_))
  intro X1 g HN
  have HX1 : Hid (Below w.heap.size w X1 ∧ Box X1 g 23 (wnL p) ∧ w.heap.size ≤ g ∧ True) := by
    have hb := Below.refl w.heap.size w
    obtain ⟨hg, hb2, bn⟩ := HN.out
    have hz := hb.size
    exact ⟨Below.on hb hb2, bn, by omega, trivial⟩
  clear HN 
  have k0 := Box.cell (HX1.out.2.1) 0 rfl
  have k1 := Box.cell (HX1.out.2.1) 1 rfl
  have k2 := Box.cell (HX1.out.2.1) 2 rfl
  have k3 := Box.cell (HX1.out.2.1) 3 rfl
  have k4 := Box.cell (HX1.out.2.1) 4 rfl
  have k5 := Box.cell (HX1.out.2.1) 5 rfl
  have k6 := Box.cell (HX1.out.2.1) 6 rfl
  go_wp2_with fail
  refine (c0 _).mono ?_
  rintro e w' ⟨rfl, hq⟩
  obtain rfl := hq.symm
  clear hq
  go_wp2_with fail
  refine (c1 _).mono ?_
  rintro e w' ⟨rfl, hq⟩
  obtain rfl := hq.symm
  clear hq
  go_wp2_with fail
  refine (c2 _).mono ?_
  rintro e w' ⟨rfl, hq⟩
  obtain rfl := hq.symm
  clear hq
  go_wp2_with fail
  refine (c3 _).mono ?_
  rintro e w' ⟨rfl, hq⟩
  obtain rfl := hq.symm
  clear hq
  go_wp2_with fail
  refine (c4 _).mono ?_
  rintro e w' ⟨rfl, hq⟩
  obtain rfl := hq.symm
  clear hq
  go_wp2_with fail
  refine (c5 _).mono ?_
  rintro e w' ⟨rfl, hq⟩
  obtain rfl := hq.symm
  clear hq
  go_wp2_with fail
  go_ret
  exact ⟨rfl, HX1.out.1⟩

set_option maxRecDepth 100000 in
set_option maxHeartbeats 4000000 in
theorem chk_7 (p : Wn) (c0 : ∀ W, Calls Try.prog 23 #[.int .i64 p.un] W fun e w' => e = .returned (.bool true) ∧ w' = W) (c1 : ∀ W, Calls Try.prog 23 #[.int .i64 p.ed] W fun e w' => e = .returned (.bool true) ∧ w' = W) (c2 : ∀ W, Calls Try.prog 23 #[.int .i64 p.l1] W fun e w' => e = .returned (.bool true) ∧ w' = W) (c3 : ∀ W, Calls Try.prog 23 #[.int .i64 p.l2] W fun e w' => e = .returned (.bool true) ∧ w' = W) (c4 : ∀ W, Calls Try.prog 24 #[.int .i64 p.sz] W fun e w' => e = .returned (.bool true) ∧ w' = W) (c5 : ∀ W, Calls Try.prog 24 #[.int .i64 p.mo] W fun e w' => e = .returned (.bool true) ∧ w' = W) (b1 : 0 ≤ p.l2 ∧ p.l2 ≤ 1125900980584448) (b2 : 0 ≤ p.sz ∧ p.sz ≤ 1073741824) (h0 : ¬ p.mo < p.sz) (h1 : p.ed < p.l2 + p.sz)  (w : World) : Calls Try.prog 8 #[agv (wnL p)] w fun e w' => e = .returned (.int .i64 230) ∧ Below w.heap.size w w' := by
  go_enter Try.func8, Try.ntmps8
  go_wp2_with (first | (refine wpS_box rfl rfl rfl ?_))
  intro X1 g HN
  have HX1 : Hid (Below w.heap.size w X1 ∧ Box X1 g 23 (wnL p) ∧ w.heap.size ≤ g ∧ True) := by
    have hb := Below.refl w.heap.size w
    obtain ⟨hg, hb2, bn⟩ := HN.out
    have hz := hb.size
    exact ⟨Below.on hb hb2, bn, by omega, trivial⟩
  clear HN 
  have k0 := Box.cell (HX1.out.2.1) 0 rfl
  have k1 := Box.cell (HX1.out.2.1) 1 rfl
  have k2 := Box.cell (HX1.out.2.1) 2 rfl
  have k3 := Box.cell (HX1.out.2.1) 3 rfl
  have k4 := Box.cell (HX1.out.2.1) 4 rfl
  have k5 := Box.cell (HX1.out.2.1) 5 rfl
  have k6 := Box.cell (HX1.out.2.1) 6 rfl
  go_wp2_with fail
  refine (c0 _).mono ?_
  rintro e w' ⟨rfl, hq⟩
  obtain rfl := hq.symm
  clear hq
  go_wp2_with fail
  refine (c1 _).mono ?_
  rintro e w' ⟨rfl, hq⟩
  obtain rfl := hq.symm
  clear hq
  go_wp2_with fail
  refine (c2 _).mono ?_
  rintro e w' ⟨rfl, hq⟩
  obtain rfl := hq.symm
  clear hq
  go_wp2_with fail
  refine (c3 _).mono ?_
  rintro e w' ⟨rfl, hq⟩
  obtain rfl := hq.symm
  clear hq
  go_wp2_with fail
  refine (c4 _).mono ?_
  rintro e w' ⟨rfl, hq⟩
  obtain rfl := hq.symm
  clear hq
  go_wp2_with fail
  refine (c5 _).mono ?_
  rintro e w' ⟨rfl, hq⟩
  obtain rfl := hq.symm
  clear hq
  go_upto_region 5 with fail
  refine ck7_reg (by rfl) p g _ _  rfl (HX1.out.2.2.1) ⟨HX1.out.1, HX1.out.2.1, trivial⟩ (decide_eq_true (by omega)) (fun W => right_is p b1 b2 W) ?_
  intro T X2 hT hS
  simp only [Act.put, List.setIfInBounds_toArray, List.set_cons_zero, List.set_cons_succ]
  simp only [hT]
  have HX2 : Hid (Below w.heap.size w X2 ∧ Box X2 g 23 (wnL p) ∧ w.heap.size ≤ g ∧ True) := by
    obtain ⟨hb, b0, l0, _⟩ := HX1.out
    exact ⟨hS.1, hS.2.1, l0, trivial⟩
  clear hS hT HX1
  go_wp2_with fail
  go_ret
  exact ⟨rfl, HX2.out.1⟩

set_option maxRecDepth 100000 in
set_option maxHeartbeats 4000000 in
theorem chk_8 (p : Wn) (c0 : ∀ W, Calls Try.prog 23 #[.int .i64 p.un] W fun e w' => e = .returned (.bool true) ∧ w' = W) (c1 : ∀ W, Calls Try.prog 23 #[.int .i64 p.ed] W fun e w' => e = .returned (.bool true) ∧ w' = W) (c2 : ∀ W, Calls Try.prog 23 #[.int .i64 p.l1] W fun e w' => e = .returned (.bool true) ∧ w' = W) (c3 : ∀ W, Calls Try.prog 23 #[.int .i64 p.l2] W fun e w' => e = .returned (.bool true) ∧ w' = W) (c4 : ∀ W, Calls Try.prog 24 #[.int .i64 p.sz] W fun e w' => e = .returned (.bool true) ∧ w' = W) (c5 : ∀ W, Calls Try.prog 24 #[.int .i64 p.mo] W fun e w' => e = .returned (.bool true) ∧ w' = W) (b1 : 0 ≤ p.l2 ∧ p.l2 ≤ 1125900980584448) (b2 : 0 ≤ p.sz ∧ p.sz ≤ 1073741824) (h0 : ¬ p.mo < p.sz) (h1 : ¬ p.ed < p.l2 + p.sz) (h2 : p.tr < 0)  (w : World) : Calls Try.prog 8 #[agv (wnL p)] w fun e w' => e = .returned (.int .i64 230) ∧ Below w.heap.size w w' := by
  go_enter Try.func8, Try.ntmps8
  go_wp2_with (first | (refine wpS_box rfl rfl rfl ?_))
  intro X1 g HN
  have HX1 : Hid (Below w.heap.size w X1 ∧ Box X1 g 23 (wnL p) ∧ w.heap.size ≤ g ∧ True) := by
    have hb := Below.refl w.heap.size w
    obtain ⟨hg, hb2, bn⟩ := HN.out
    have hz := hb.size
    exact ⟨Below.on hb hb2, bn, by omega, trivial⟩
  clear HN 
  have k0 := Box.cell (HX1.out.2.1) 0 rfl
  have k1 := Box.cell (HX1.out.2.1) 1 rfl
  have k2 := Box.cell (HX1.out.2.1) 2 rfl
  have k3 := Box.cell (HX1.out.2.1) 3 rfl
  have k4 := Box.cell (HX1.out.2.1) 4 rfl
  have k5 := Box.cell (HX1.out.2.1) 5 rfl
  have k6 := Box.cell (HX1.out.2.1) 6 rfl
  go_wp2_with fail
  refine (c0 _).mono ?_
  rintro e w' ⟨rfl, hq⟩
  obtain rfl := hq.symm
  clear hq
  go_wp2_with fail
  refine (c1 _).mono ?_
  rintro e w' ⟨rfl, hq⟩
  obtain rfl := hq.symm
  clear hq
  go_wp2_with fail
  refine (c2 _).mono ?_
  rintro e w' ⟨rfl, hq⟩
  obtain rfl := hq.symm
  clear hq
  go_wp2_with fail
  refine (c3 _).mono ?_
  rintro e w' ⟨rfl, hq⟩
  obtain rfl := hq.symm
  clear hq
  go_wp2_with fail
  refine (c4 _).mono ?_
  rintro e w' ⟨rfl, hq⟩
  obtain rfl := hq.symm
  clear hq
  go_wp2_with fail
  refine (c5 _).mono ?_
  rintro e w' ⟨rfl, hq⟩
  obtain rfl := hq.symm
  clear hq
  go_upto_region 5 with fail
  refine ck8_reg (by rfl) p g _ _  rfl (HX1.out.2.2.1) ⟨HX1.out.1, HX1.out.2.1, trivial⟩ (decide_eq_false (by omega)) (decide_eq_true (by omega)) (fun W => right_is p b1 b2 W) ?_
  intro T X2 hT hS
  simp only [Act.put, List.setIfInBounds_toArray, List.set_cons_zero, List.set_cons_succ]
  simp only [hT]
  have HX2 : Hid (Below w.heap.size w X2 ∧ Box X2 g 23 (wnL p) ∧ w.heap.size ≤ g ∧ True) := by
    obtain ⟨hb, b0, l0, _⟩ := HX1.out
    exact ⟨hS.1, hS.2.1, l0, trivial⟩
  clear hS hT HX1
  go_wp2_with fail
  go_ret
  exact ⟨rfl, HX2.out.1⟩

set_option maxRecDepth 100000 in
set_option maxHeartbeats 4000000 in
theorem chk_9 (p : Wn) (c0 : ∀ W, Calls Try.prog 23 #[.int .i64 p.un] W fun e w' => e = .returned (.bool true) ∧ w' = W) (c1 : ∀ W, Calls Try.prog 23 #[.int .i64 p.ed] W fun e w' => e = .returned (.bool true) ∧ w' = W) (c2 : ∀ W, Calls Try.prog 23 #[.int .i64 p.l1] W fun e w' => e = .returned (.bool true) ∧ w' = W) (c3 : ∀ W, Calls Try.prog 23 #[.int .i64 p.l2] W fun e w' => e = .returned (.bool true) ∧ w' = W) (c4 : ∀ W, Calls Try.prog 24 #[.int .i64 p.sz] W fun e w' => e = .returned (.bool true) ∧ w' = W) (c5 : ∀ W, Calls Try.prog 24 #[.int .i64 p.mo] W fun e w' => e = .returned (.bool true) ∧ w' = W) (b1 : 0 ≤ p.l2 ∧ p.l2 ≤ 1125900980584448) (b2 : 0 ≤ p.sz ∧ p.sz ≤ 1073741824) (h0 : ¬ p.mo < p.sz) (h1 : ¬ p.ed < p.l2 + p.sz) (h2 : ¬ p.tr < 0) (h3 : 100 < p.tr)  (w : World) : Calls Try.prog 8 #[agv (wnL p)] w fun e w' => e = .returned (.int .i64 230) ∧ Below w.heap.size w w' := by
  go_enter Try.func8, Try.ntmps8
  go_wp2_with (first | (refine wpS_box rfl rfl rfl ?_))
  intro X1 g HN
  have HX1 : Hid (Below w.heap.size w X1 ∧ Box X1 g 23 (wnL p) ∧ w.heap.size ≤ g ∧ True) := by
    have hb := Below.refl w.heap.size w
    obtain ⟨hg, hb2, bn⟩ := HN.out
    have hz := hb.size
    exact ⟨Below.on hb hb2, bn, by omega, trivial⟩
  clear HN 
  have k0 := Box.cell (HX1.out.2.1) 0 rfl
  have k1 := Box.cell (HX1.out.2.1) 1 rfl
  have k2 := Box.cell (HX1.out.2.1) 2 rfl
  have k3 := Box.cell (HX1.out.2.1) 3 rfl
  have k4 := Box.cell (HX1.out.2.1) 4 rfl
  have k5 := Box.cell (HX1.out.2.1) 5 rfl
  have k6 := Box.cell (HX1.out.2.1) 6 rfl
  go_wp2_with fail
  refine (c0 _).mono ?_
  rintro e w' ⟨rfl, hq⟩
  obtain rfl := hq.symm
  clear hq
  go_wp2_with fail
  refine (c1 _).mono ?_
  rintro e w' ⟨rfl, hq⟩
  obtain rfl := hq.symm
  clear hq
  go_wp2_with fail
  refine (c2 _).mono ?_
  rintro e w' ⟨rfl, hq⟩
  obtain rfl := hq.symm
  clear hq
  go_wp2_with fail
  refine (c3 _).mono ?_
  rintro e w' ⟨rfl, hq⟩
  obtain rfl := hq.symm
  clear hq
  go_wp2_with fail
  refine (c4 _).mono ?_
  rintro e w' ⟨rfl, hq⟩
  obtain rfl := hq.symm
  clear hq
  go_wp2_with fail
  refine (c5 _).mono ?_
  rintro e w' ⟨rfl, hq⟩
  obtain rfl := hq.symm
  clear hq
  go_upto_region 5 with fail
  refine ck9_reg (by rfl) p g _ _  rfl (HX1.out.2.2.1) ⟨HX1.out.1, HX1.out.2.1, trivial⟩ (decide_eq_false (by omega)) (decide_eq_false (by omega)) (decide_eq_true (by omega)) (fun W => right_is p b1 b2 W) ?_
  intro T X2 hT hS
  simp only [Act.put, List.setIfInBounds_toArray, List.set_cons_zero, List.set_cons_succ]
  simp only [hT]
  have HX2 : Hid (Below w.heap.size w X2 ∧ Box X2 g 23 (wnL p) ∧ w.heap.size ≤ g ∧ True) := by
    obtain ⟨hb, b0, l0, _⟩ := HX1.out
    exact ⟨hS.1, hS.2.1, l0, trivial⟩
  clear hS hT HX1
  go_wp2_with fail
  go_ret
  exact ⟨rfl, HX2.out.1⟩

set_option maxRecDepth 100000 in
set_option maxHeartbeats 4000000 in
theorem chk_10 (p : Wn) (c0 : ∀ W, Calls Try.prog 23 #[.int .i64 p.un] W fun e w' => e = .returned (.bool true) ∧ w' = W) (c1 : ∀ W, Calls Try.prog 23 #[.int .i64 p.ed] W fun e w' => e = .returned (.bool true) ∧ w' = W) (c2 : ∀ W, Calls Try.prog 23 #[.int .i64 p.l1] W fun e w' => e = .returned (.bool true) ∧ w' = W) (c3 : ∀ W, Calls Try.prog 23 #[.int .i64 p.l2] W fun e w' => e = .returned (.bool true) ∧ w' = W) (c4 : ∀ W, Calls Try.prog 24 #[.int .i64 p.sz] W fun e w' => e = .returned (.bool true) ∧ w' = W) (c5 : ∀ W, Calls Try.prog 24 #[.int .i64 p.mo] W fun e w' => e = .returned (.bool true) ∧ w' = W) (b1 : 0 ≤ p.l2 ∧ p.l2 ≤ 1125900980584448) (b2 : 0 ≤ p.sz ∧ p.sz ≤ 1073741824) (h0 : ¬ p.mo < p.sz) (h1 : ¬ p.ed < p.l2 + p.sz) (h2 : ¬ p.tr < 0) (h3 : ¬ 100 < p.tr)  (w : World) : Calls Try.prog 8 #[agv (wnL p)] w fun e w' => e = .returned (.int .i64 0) ∧ Below w.heap.size w w' := by
  go_enter Try.func8, Try.ntmps8
  go_wp2_with (first | (refine wpS_box rfl rfl rfl ?_))
  intro X1 g HN
  have HX1 : Hid (Below w.heap.size w X1 ∧ Box X1 g 23 (wnL p) ∧ w.heap.size ≤ g ∧ True) := by
    have hb := Below.refl w.heap.size w
    obtain ⟨hg, hb2, bn⟩ := HN.out
    have hz := hb.size
    exact ⟨Below.on hb hb2, bn, by omega, trivial⟩
  clear HN 
  have k0 := Box.cell (HX1.out.2.1) 0 rfl
  have k1 := Box.cell (HX1.out.2.1) 1 rfl
  have k2 := Box.cell (HX1.out.2.1) 2 rfl
  have k3 := Box.cell (HX1.out.2.1) 3 rfl
  have k4 := Box.cell (HX1.out.2.1) 4 rfl
  have k5 := Box.cell (HX1.out.2.1) 5 rfl
  have k6 := Box.cell (HX1.out.2.1) 6 rfl
  go_wp2_with fail
  refine (c0 _).mono ?_
  rintro e w' ⟨rfl, hq⟩
  obtain rfl := hq.symm
  clear hq
  go_wp2_with fail
  refine (c1 _).mono ?_
  rintro e w' ⟨rfl, hq⟩
  obtain rfl := hq.symm
  clear hq
  go_wp2_with fail
  refine (c2 _).mono ?_
  rintro e w' ⟨rfl, hq⟩
  obtain rfl := hq.symm
  clear hq
  go_wp2_with fail
  refine (c3 _).mono ?_
  rintro e w' ⟨rfl, hq⟩
  obtain rfl := hq.symm
  clear hq
  go_wp2_with fail
  refine (c4 _).mono ?_
  rintro e w' ⟨rfl, hq⟩
  obtain rfl := hq.symm
  clear hq
  go_wp2_with fail
  refine (c5 _).mono ?_
  rintro e w' ⟨rfl, hq⟩
  obtain rfl := hq.symm
  clear hq
  go_upto_region 5 with fail
  refine ck10_reg (by rfl) p g _ _  rfl (HX1.out.2.2.1) ⟨HX1.out.1, HX1.out.2.1, trivial⟩ (decide_eq_false (by omega)) (decide_eq_false (by omega)) (decide_eq_false (by omega)) (fun W => right_is p b1 b2 W) ?_
  intro T X2 hT hS
  simp only [Act.put, List.setIfInBounds_toArray, List.set_cons_zero, List.set_cons_succ]
  simp only [hT]
  have HX2 : Hid (Below w.heap.size w X2 ∧ Box X2 g 23 (wnL p) ∧ w.heap.size ≤ g ∧ True) := by
    obtain ⟨hb, b0, l0, _⟩ := HX1.out
    exact ⟨hS.1, hS.2.1, l0, trivial⟩
  clear hS hT HX1
  go_wp2_with fail
  go_ret
  exact ⟨rfl, HX2.out.1⟩

theorem chk_is (p : Wn) {e : Int} (he : chkE p = e) (w : World) : Calls Try.prog 8 #[agv (wnL p)] w fun e' w' => e' = .returned (.int .i64 e) ∧ Below w.heap.size w w' := by
  subst he
  unfold chkE
  cases k0 : farB p.un with
  | false =>
    have hk := far_no k0
    rw [if_neg (fun k => by have := ok_out k; unfold Ok at this; omega)]; exact chk_0 p  (fun W => edge_is _ k0 W) w
  | true =>
  have q0 := far_out k0
  have c0 := fun W => edge_is _ k0 W
  cases k1 : farB p.ed with
  | false =>
    have hk := far_no k1
    rw [if_neg (fun k => by have := ok_out k; unfold Ok at this; omega)]; exact chk_1 p c0 (fun W => edge_is _ k1 W) w
  | true =>
  have q1 := far_out k1
  have c1 := fun W => edge_is _ k1 W
  cases k2 : farB p.l1 with
  | false =>
    have hk := far_no k2
    rw [if_neg (fun k => by have := ok_out k; unfold Ok at this; omega)]; exact chk_2 p c0 c1 (fun W => edge_is _ k2 W) w
  | true =>
  have q2 := far_out k2
  have c2 := fun W => edge_is _ k2 W
  cases k3 : farB p.l2 with
  | false =>
    have hk := far_no k3
    rw [if_neg (fun k => by have := ok_out k; unfold Ok at this; omega)]; exact chk_3 p c0 c1 c2 (fun W => edge_is _ k3 W) w
  | true =>
  have q3 := far_out k3
  have c3 := fun W => edge_is _ k3 W
  cases k4 : szB p.sz with
  | false =>
    have hk := sz_no k4
    rw [if_neg (fun k => by have := ok_out k; unfold Ok at this; omega)]; exact chk_4 p c0 c1 c2 c3 (fun W => size_is _ k4 W) w
  | true =>
  have q4 := sz_out k4
  have c4 := fun W => size_is _ k4 W
  cases k5 : szB p.mo with
  | false =>
    have hk := sz_no k5
    rw [if_neg (fun k => by have := ok_out k; unfold Ok at this; omega)]; exact chk_5 p c0 c1 c2 c3 c4 (fun W => size_is _ k5 W) w
  | true =>
  have q5 := sz_out k5
  have c5 := fun W => size_is _ k5 W
  by_cases h0 : p.mo < p.sz
  · rw [if_neg (fun k => by have := ok_out k; unfold Ok at this; omega)]; exact chk_6 p c0 c1 c2 c3 c4 c5  h0 w
  by_cases h1 : p.ed < p.l2 + p.sz
  · rw [if_neg (fun k => by have := ok_out k; unfold Ok at this; omega)]; exact chk_7 p c0 c1 c2 c3 c4 c5 q3 q4 h0 h1 w
  by_cases h2 : p.tr < 0
  · rw [if_neg (fun k => by have := ok_out k; unfold Ok at this; omega)]; exact chk_8 p c0 c1 c2 c3 c4 c5 q3 q4 h0 h1 h2 w
  by_cases h3 : 100 < p.tr
  · rw [if_neg (fun k => by have := ok_out k; unfold Ok at this; omega)]; exact chk_9 p c0 c1 c2 c3 c4 c5 q3 q4 h0 h1 h2 h3 w
  rw [if_pos (ok_in (by unfold Ok; omega))]; exact chk_10 p c0 c1 c2 c3 c4 c5 q3 q4 h0 h1 h2 h3 w
end Go.Proofs.Ytliiogafemlagaa
