/- The document's Acked: the regions that draw. -/
import Derived.Test.YtikcjdoeoghoeaaDets
import Derived.Test.YtikcjdoeoghoeaaKCurve
namespace Go.Proofs.Ytikcjdoeoghoeaa
open Go.ChangeShapes Go.WideShapes Go.ChangeAt Go.RowKit
set_option linter.unusedVariables false

theorem enter14 (args : Array Value) (w : World) : (callFunc 14 args).run Try.prog w = .ok (.enter 14 args) w := by kernel_rfl
theorem enter32 (args : Array Value) (w : World) : (callFunc 32 args).run Try.prog w = .ok (.enter 32 args) w := by kernel_rfl
theorem enter33 (args : Array Value) (w : World) : (callFunc 33 args).run Try.prog w = .ok (.enter 33 args) w := by kernel_rfl
def ra21O0 (ps : String) : Oper := { dst := some 99, op := .load 26 (.tmp 5), type := 26, pos := ps, after := #[], guard := none }
def ra21O1 (ps : String) : Oper := { dst := some 100, op := .move (.tmp 14), type := 3, pos := ps, after := #[], guard := none }
def ra21O2 (ps : String) : Oper := { dst := some 101, op := .call { callee := .value (.func 14), args := #[.tmp 99, .tmp 100], argTypes := #[26, 3] }, type := 3, pos := ps, after := #[{ on := 0, ground := .data }, { on := 1, ground := .data }], guard := none }
def ra21O3 (ps : String) : Oper := { dst := some 102, op := .fieldAddr 26 (.tmp 5) 2, type := 0, pos := ps, after := #[], guard := none }
def ra21O4 (ps : String) : Oper := { dst := some 103, op := .load 3 (.tmp 102), type := 3, pos := ps, after := #[{ on := 3, ground := .data }], guard := none }
def ra21O5 (ps : String) : Oper := { dst := some 104, op := .fieldAddr 26 (.tmp 5) 2, type := 0, pos := ps, after := #[], guard := none }
def ra21O6 (ps : String) : Oper := { dst := some 105, op := .load 3 (.tmp 104), type := 3, pos := ps, after := #[{ on := 5, ground := .data }], guard := none }
def ra21O7 (ps : String) : Oper := { dst := some 106, op := .fieldAddr 26 (.tmp 5) 2, type := 0, pos := ps, after := #[], guard := none }
def ra21O8 (ps : String) : Oper := { dst := some 107, op := .load 3 (.tmp 106), type := 3, pos := ps, after := #[{ on := 7, ground := .data }], guard := none }
def ra21O9 (ps : String) : Oper := { dst := some 108, op := .binOp .quo 3 (.tmp 107) (.const (.int .i64 2)) 3, type := 3, pos := ps, after := #[{ on := 8, ground := .data }], guard := none }
def ra21O10 (ps : String) : Oper := { dst := some 109, op := .binOp .add 3 (.tmp 105) (.tmp 108) 3, type := 3, pos := ps, after := #[{ on := 6, ground := .data }, { on := 9, ground := .data }], guard := none }
def ra21O11 (ps : String) : Oper := { dst := some 110, op := .call { callee := .value (.func 32), args := #[.tmp 101, .tmp 103, .tmp 109], argTypes := #[3, 3, 3] }, type := 3, pos := ps, after := #[{ on := 2, ground := .data }, { on := 4, ground := .data }, { on := 10, ground := .data }, { on := 2, ground := .chain }], guard := none }
def ra21O12 (ps : String) : Oper := { dst := some 15, op := .assign (.tmp 110), type := 3, pos := ps, after := #[{ on := 11, ground := .data }, { on := 11, ground := .chain }, { on := 0, ground := .phase }, { on := 1, ground := .phase }, { on := 2, ground := .phase }, { on := 3, ground := .phase }, { on := 4, ground := .phase }, { on := 5, ground := .phase }, { on := 6, ground := .phase }, { on := 7, ground := .phase }, { on := 8, ground := .phase }, { on := 9, ground := .phase }, { on := 10, ground := .phase }, { on := 11, ground := .phase }], guard := none }
def ra21 (ps : String) : Array Oper := #[ra21O0 ps, ra21O1 ps, ra21O2 ps, ra21O3 ps, ra21O4 ps, ra21O5 ps, ra21O6 ps, ra21O7 ps, ra21O8 ps, ra21O9 ps, ra21O10 ps, ra21O11 ps, ra21O12 ps]
theorem ra21_0 (ps : String) : (ra21 ps)[0]? = some (ra21O0 ps) := rfl
theorem ra21_1 (ps : String) : (ra21 ps)[1]? = some (ra21O1 ps) := rfl
theorem ra21_2 (ps : String) : (ra21 ps)[2]? = some (ra21O2 ps) := rfl
theorem ra21_3 (ps : String) : (ra21 ps)[3]? = some (ra21O3 ps) := rfl
theorem ra21_4 (ps : String) : (ra21 ps)[4]? = some (ra21O4 ps) := rfl
theorem ra21_5 (ps : String) : (ra21 ps)[5]? = some (ra21O5 ps) := rfl
theorem ra21_6 (ps : String) : (ra21 ps)[6]? = some (ra21O6 ps) := rfl
theorem ra21_7 (ps : String) : (ra21 ps)[7]? = some (ra21O7 ps) := rfl
theorem ra21_8 (ps : String) : (ra21 ps)[8]? = some (ra21O8 ps) := rfl
theorem ra21_9 (ps : String) : (ra21 ps)[9]? = some (ra21O9 ps) := rfl
theorem ra21_10 (ps : String) : (ra21 ps)[10]? = some (ra21O10 ps) := rfl
theorem ra21_11 (ps : String) : (ra21 ps)[11]? = some (ra21O11 ps) := rfl
theorem ra21_12 (ps : String) : (ra21 ps)[12]? = some (ra21O12 ps) := rfl
def ra21D : Nat → Option Tmp
  | 0 => some 99
  | 1 => some 100
  | 2 => some 101
  | 3 => some 102
  | 4 => some 103
  | 5 => some 104
  | 6 => some 105
  | 7 => some 106
  | 8 => some 107
  | 9 => some 108
  | 10 => some 109
  | 11 => some 110
  | 12 => some 15
  | _ => none
def ra21T (c : Cc) (g : Nat) (t cv aim hf : Int) : Nat → Value
  | 0 => ccv c
  | 1 => .int .i64 t
  | 2 => .int .i64 cv
  | 3 => .pointer (some ⟨g, 2, none⟩)
  | 4 => .int .i64 c.cw
  | 5 => .pointer (some ⟨g, 2, none⟩)
  | 6 => .int .i64 c.cw
  | 7 => .pointer (some ⟨g, 2, none⟩)
  | 8 => .int .i64 c.cw
  | 9 => .int .i64 hf
  | 10 => .int .i64 (c.cw + hf)
  | 11 => .int .i64 aim
  | 12 => .int .i64 aim
  | _ => undef
set_option maxRecDepth 100000 in
set_option maxHeartbeats 4000000 in
theorem ra21_reg {ps : String} {Q : Exit → Act → World → Prop} {a0 : Act} {W0 : World} (sz : a0.tmps.size = 149) (c : Cc) (g : Nat) (t cv aim hf : Int)
    (e5 : a0.eval (.tmp 5) = .pointer (some ⟨g, 0, none⟩)) (e14 : a0.eval (.tmp 14) = .int .i64 t)
    (hb : Box W0 g 26 (ccL c)) (hq : c.cw.tdiv 2 = hf) (hqw : IntKind.i64.wrap hf = hf) (hw1 : IntKind.i64.wrap (c.cw + hf) = c.cw + hf) (c4 : ∀ W, Calls Try.prog 14 #[ccv c, .int .i64 t] W fun e w' => e = .returned (.int .i64 cv) ∧ Below W.heap.size W w') (c5 : ∀ W, Calls Try.prog 32 #[.int .i64 cv, .int .i64 c.cw, .int .i64 (c.cw + hf)] W fun e w' => e = .returned (.int .i64 aim) ∧ w' = W)
    (hfin : ∀ (T : Nat → Value) w, T 12 = .int .i64 aim → Chg W0 g w ∧ Box w g 26 (ccL (c)) → Q .normal (((((((((((((a0.put (some 99) (T 0)).put (some 100) (T 1)).put (some 101) (T 2)).put (some 102) (T 3)).put (some 103) (T 4)).put (some 104) (T 5)).put (some 105) (T 6)).put (some 106) (T 7)).put (some 107) (T 8)).put (some 108) (T 9)).put (some 109) (T 10)).put (some 110) (T 11)).put (some 15) (T 12)) w) :
    (Code.region 21 (ra21 ps) true).wp Try.prog Q a0 W0 := by
  refine wp_region_dets (by kernel_rfl) 13 rfl ra21D ?_ (by decide) (ra21T c g t cv aim hf) (fun D w => Chg W0 g w ∧ Box w g 26 (ccL (c))) (fun D _ => ⟨(Chg.refl W0 g).drew, hb.drew⟩) ?_ (by rfl) (fun w D _ hSw => hfin (ra21T c g t cv aim hf) w rfl hSw)
  · intro jq t hj ht
    have : ∀ j, j < 13 → (ra21D j).all (· < 149) = true := by decide
    have := this jq hj
    rw [ht] at this
    rw [sz]
    simpa using this
  · intro iq o ho D a w hSw hDi hcl hs hel K hK
    have hin : iq < 13 := (Array.getElem?_eq_some_iff.1 ho).1
    match iq, hin, ho with
    | 0, _, ho =>
      obtain rfl := Option.some.inj (ho.symm.trans (ra21_0 ps))
      have u5 : a.eval (.tmp 5) = .pointer (some ⟨g, 0, none⟩) := (hel 5 (by decide)).trans e5
      exact op_valW (ra21_0 ps) rfl (v := ccv c) (run_loadC isC26 rfl u5 hSw.2) (hK w (fun D' _ _ => hSw))
    | 1, _, ho =>
      obtain rfl := Option.some.inj (ho.symm.trans (ra21_1 ps))
      have u14 : a.eval (.tmp 14) = .int .i64 t := (hel 14 (by decide)).trans e14
      exact op_valW (ra21_1 ps) rfl (v := .int .i64 t) (by unfold ra21O1 execOp; simp only [u14]; first | (go_simp; done) | (go_simp; with_reducible rfl)) (hK w (fun D' _ _ => hSw))
    | 2, _, ho =>
      obtain rfl := Option.some.inj (ho.symm.trans (ra21_2 ps))
      have s0 : a.eval (.tmp 99) = ccv c := hs 0 99 (by rfl) rfl
      have s1 : a.eval (.tmp 100) = .int .i64 t := hs 1 100 (by rfl) rfl
      exact op_enterW (ra21_2 ps) rfl (f := 14) (args := #[ccv c, .int .i64 t]) (by rw [run_call rfl enter14]; simp only [List.map_toArray, List.map_cons, List.map_nil, s0, s1]; try rfl) ((c4 w).mono (fun e w' hh => ⟨_, hh.1, hK w' (fun D' _ _ => ⟨hSw.1.later hSw.2.lt hh.2, hSw.2.later hh.2⟩)⟩))
    | 3, _, ho =>
      obtain rfl := Option.some.inj (ho.symm.trans (ra21_3 ps))
      have u5 : a.eval (.tmp 5) = .pointer (some ⟨g, 0, none⟩) := (hel 5 (by decide)).trans e5
      exact op_valW (ra21_3 ps) rfl (v := .pointer (some ⟨g, 2, none⟩)) (by unfold ra21O3 execOp; simp only [u5]; first | (go_simp; done) | (go_simp; with_reducible rfl)) (hK w (fun D' _ _ => hSw))
    | 4, _, ho =>
      obtain rfl := Option.some.inj (ho.symm.trans (ra21_4 ps))
      have s3 : a.eval (.tmp 102) = .pointer (some ⟨g, 2, none⟩) := hs 3 102 (by rfl) rfl
      have hcl := Box.cell hSw.2 2 rfl
      exact op_valW (ra21_4 ps) rfl (v := .int .i64 c.cw) (by unfold ra21O4 execOp; simp only [s3]; first | (go_simp; done) | (go_simp; with_reducible rfl)) (hK w (fun D' _ _ => hSw))
    | 5, _, ho =>
      obtain rfl := Option.some.inj (ho.symm.trans (ra21_5 ps))
      have u5 : a.eval (.tmp 5) = .pointer (some ⟨g, 0, none⟩) := (hel 5 (by decide)).trans e5
      exact op_valW (ra21_5 ps) rfl (v := .pointer (some ⟨g, 2, none⟩)) (by unfold ra21O5 execOp; simp only [u5]; first | (go_simp; done) | (go_simp; with_reducible rfl)) (hK w (fun D' _ _ => hSw))
    | 6, _, ho =>
      obtain rfl := Option.some.inj (ho.symm.trans (ra21_6 ps))
      have s5 : a.eval (.tmp 104) = .pointer (some ⟨g, 2, none⟩) := hs 5 104 (by rfl) rfl
      have hcl := Box.cell hSw.2 2 rfl
      exact op_valW (ra21_6 ps) rfl (v := .int .i64 c.cw) (by unfold ra21O6 execOp; simp only [s5]; first | (go_simp; done) | (go_simp; with_reducible rfl)) (hK w (fun D' _ _ => hSw))
    | 7, _, ho =>
      obtain rfl := Option.some.inj (ho.symm.trans (ra21_7 ps))
      have u5 : a.eval (.tmp 5) = .pointer (some ⟨g, 0, none⟩) := (hel 5 (by decide)).trans e5
      exact op_valW (ra21_7 ps) rfl (v := .pointer (some ⟨g, 2, none⟩)) (by unfold ra21O7 execOp; simp only [u5]; first | (go_simp; done) | (go_simp; with_reducible rfl)) (hK w (fun D' _ _ => hSw))
    | 8, _, ho =>
      obtain rfl := Option.some.inj (ho.symm.trans (ra21_8 ps))
      have s7 : a.eval (.tmp 106) = .pointer (some ⟨g, 2, none⟩) := hs 7 106 (by rfl) rfl
      have hcl := Box.cell hSw.2 2 rfl
      exact op_valW (ra21_8 ps) rfl (v := .int .i64 c.cw) (by unfold ra21O8 execOp; simp only [s7]; first | (go_simp; done) | (go_simp; with_reducible rfl)) (hK w (fun D' _ _ => hSw))
    | 9, _, ho =>
      obtain rfl := Option.some.inj (ho.symm.trans (ra21_9 ps))
      have s8 : a.eval (.tmp 107) = .int .i64 c.cw := hs 8 107 (by rfl) rfl
      have hcl : c.cw.tdiv 2 = hf := hq
      have hcl2 := hqw
      exact op_valW (ra21_9 ps) rfl (v := .int .i64 hf) (by unfold ra21O9 execOp; simp only [s8]; first | (go_simp; done) | (go_simp; with_reducible rfl)) (hK w (fun D' _ _ => hSw))
    | 10, _, ho =>
      obtain rfl := Option.some.inj (ho.symm.trans (ra21_10 ps))
      have s6 : a.eval (.tmp 105) = .int .i64 c.cw := hs 6 105 (by rfl) rfl
      have s9 : a.eval (.tmp 108) = .int .i64 hf := hs 9 108 (by rfl) rfl
      have hcl : IntKind.i64.wrap (c.cw + hf) = c.cw + hf := hw1
      exact op_valW (ra21_10 ps) rfl (v := .int .i64 (c.cw + hf)) (by unfold ra21O10 execOp; simp only [s6, s9]; first | (go_simp; done) | (go_simp; with_reducible rfl)) (hK w (fun D' _ _ => hSw))
    | 11, _, ho =>
      obtain rfl := Option.some.inj (ho.symm.trans (ra21_11 ps))
      have s2 : a.eval (.tmp 101) = .int .i64 cv := hs 2 101 (by rfl) rfl
      have s4 : a.eval (.tmp 103) = .int .i64 c.cw := hs 4 103 (by rfl) rfl
      have s10 : a.eval (.tmp 109) = .int .i64 (c.cw + hf) := hs 10 109 (by rfl) rfl
      exact op_enterW (ra21_11 ps) rfl (f := 32) (args := #[.int .i64 cv, .int .i64 c.cw, .int .i64 (c.cw + hf)]) (by rw [run_call rfl enter32]; simp only [List.map_toArray, List.map_cons, List.map_nil, s2, s4, s10]; try rfl) ((c5 w).mono (fun e w' hh => ⟨_, hh.1, hK w' (fun D' _ _ => (by rw [hh.2]; exact hSw))⟩))
    | 12, _, ho =>
      obtain rfl := Option.some.inj (ho.symm.trans (ra21_12 ps))
      have s11 : a.eval (.tmp 110) = .int .i64 aim := hs 11 110 (by rfl) rfl
      exact op_valW (ra21_12 ps) rfl (v := .int .i64 aim) (by unfold ra21O12 execOp; simp only [s11]; first | (go_simp; done) | (go_simp; with_reducible rfl)) (hK w (fun D' _ _ => hSw))
    | iq + 13, hin, _ => exact absurd hin (by omega)
def ra25O0 (ps : String) : Oper := { dst := some 139, op := .fieldAddr 26 (.tmp 5) 2, type := 0, pos := ps, after := #[], guard := none }
def ra25O1 (ps : String) : Oper := { dst := some 140, op := .load 3 (.tmp 139), type := 3, pos := ps, after := #[{ on := 0, ground := .data }], guard := none }
def ra25O2 (ps : String) : Oper := { dst := some 141, op := .move (.tmp 16), type := 3, pos := ps, after := #[], guard := none }
def ra25O3 (ps : String) : Oper := { dst := some 142, op := .call { callee := .value (.func 33), args := #[.tmp 140, .tmp 141], argTypes := #[3, 3] }, type := 3, pos := ps, after := #[{ on := 1, ground := .data }, { on := 2, ground := .data }], guard := none }
def ra25O4 (ps : String) : Oper := { dst := some 143, op := .fieldAddr 26 (.tmp 5) 8, type := 0, pos := ps, after := #[], guard := none }
def ra25O5 (ps : String) : Oper := { dst := some 144, op := .load 3 (.tmp 143), type := 3, pos := ps, after := #[{ on := 4, ground := .data }], guard := none }
def ra25O6 (ps : String) : Oper := { dst := some 145, op := .call { callee := .builtin .max, args := #[.tmp 142, .tmp 144], argTypes := #[3, 3] }, type := 3, pos := ps, after := #[{ on := 3, ground := .data }, { on := 5, ground := .data }], guard := none }
def ra25O7 (ps : String) : Oper := { dst := some 146, op := .call { callee := .builtin .min, args := #[.tmp 145, .const (.int .i64 1073741824)], argTypes := #[3, 3] }, type := 3, pos := ps, after := #[{ on := 6, ground := .data }], guard := none }
def ra25O8 (ps : String) : Oper := { dst := some 147, op := .fieldAddr 26 (.tmp 5) 2, type := 0, pos := ps, after := #[{ on := 0, ground := .phase }, { on := 1, ground := .phase }, { on := 2, ground := .phase }, { on := 3, ground := .phase }, { on := 4, ground := .phase }, { on := 5, ground := .phase }, { on := 6, ground := .phase }, { on := 7, ground := .phase }], guard := none }
def ra25O9 (ps : String) : Oper := { dst := none, op := .store 3 (.tmp 147) (.tmp 146), type := 0, pos := ps, after := #[{ on := 8, ground := .data }, { on := 7, ground := .data }, { on := 3, ground := .chain }, { on := 0, ground := .phase }, { on := 1, ground := .phase }, { on := 2, ground := .phase }, { on := 3, ground := .phase }, { on := 4, ground := .phase }, { on := 5, ground := .phase }, { on := 6, ground := .phase }, { on := 7, ground := .phase }], guard := none }
def ra25 (ps : String) : Array Oper := #[ra25O0 ps, ra25O1 ps, ra25O2 ps, ra25O3 ps, ra25O4 ps, ra25O5 ps, ra25O6 ps, ra25O7 ps, ra25O8 ps, ra25O9 ps]
theorem ra25_0 (ps : String) : (ra25 ps)[0]? = some (ra25O0 ps) := rfl
theorem ra25_1 (ps : String) : (ra25 ps)[1]? = some (ra25O1 ps) := rfl
theorem ra25_2 (ps : String) : (ra25 ps)[2]? = some (ra25O2 ps) := rfl
theorem ra25_3 (ps : String) : (ra25 ps)[3]? = some (ra25O3 ps) := rfl
theorem ra25_4 (ps : String) : (ra25 ps)[4]? = some (ra25O4 ps) := rfl
theorem ra25_5 (ps : String) : (ra25 ps)[5]? = some (ra25O5 ps) := rfl
theorem ra25_6 (ps : String) : (ra25 ps)[6]? = some (ra25O6 ps) := rfl
theorem ra25_7 (ps : String) : (ra25 ps)[7]? = some (ra25O7 ps) := rfl
theorem ra25_8 (ps : String) : (ra25 ps)[8]? = some (ra25O8 ps) := rfl
theorem ra25_9 (ps : String) : (ra25 ps)[9]? = some (ra25O9 ps) := rfl
def ra25D : Nat → Option Tmp
  | 0 => some 139
  | 1 => some 140
  | 2 => some 141
  | 3 => some 142
  | 4 => some 143
  | 5 => some 144
  | 6 => some 145
  | 7 => some 146
  | 8 => some 147
  | 9 => none
  | _ => none
def ra25T (c : Cc) (g : Nat) (ri ss mx cw2 : Int) : Nat → Value
  | 0 => .pointer (some ⟨g, 2, none⟩)
  | 1 => .int .i64 c.cw
  | 2 => .int .i64 ri
  | 3 => .int .i64 ss
  | 4 => .pointer (some ⟨g, 8, none⟩)
  | 5 => .int .i64 c.we
  | 6 => .int .i64 mx
  | 7 => .int .i64 cw2
  | 8 => .pointer (some ⟨g, 2, none⟩)
  | 9 => undef
  | _ => undef
set_option maxRecDepth 100000 in
set_option maxHeartbeats 4000000 in
theorem ra25_reg {ps : String} {Q : Exit → Act → World → Prop} {a0 : Act} {W0 : World} (sz : a0.tmps.size = 149) (c : Cc) (g : Nat) (ri ss mx cw2 : Int)
    (e5 : a0.eval (.tmp 5) = .pointer (some ⟨g, 0, none⟩)) (e16 : a0.eval (.tmp 16) = .int .i64 ri)
    (hb : Box W0 g 26 (ccL c)) (hmx : (if ss < c.we then c.we else ss) = mx) (hc2 : (if 1073741824 < mx then 1073741824 else mx) = cw2) (c6 : ∀ W, Calls Try.prog 33 #[.int .i64 c.cw, .int .i64 ri] W fun e w' => e = .returned (.int .i64 ss) ∧ w' = W)
    (hfin : ∀ (T : Nat → Value) w, Chg W0 g w ∧ Box w g 26 (ccL (if true = true then { c with cw := cw2 } else (c))) → Q .normal (((((((((a0.put (some 139) (T 0)).put (some 140) (T 1)).put (some 141) (T 2)).put (some 142) (T 3)).put (some 143) (T 4)).put (some 144) (T 5)).put (some 145) (T 6)).put (some 146) (T 7)).put (some 147) (T 8)) w) :
    (Code.region 25 (ra25 ps) true).wp Try.prog Q a0 W0 := by
  refine wp_region_dets (by kernel_rfl) 10 rfl ra25D ?_ (by decide) (ra25T c g ri ss mx cw2) (fun D w => Chg W0 g w ∧ Box w g 26 (ccL (if D 9 = true then { c with cw := cw2 } else (c)))) (fun D hD => by
    show Chg W0 g W0.drew ∧ Box W0.drew g 26 (ccL (if D 9 = true then { c with cw := cw2 } else (c)))
    rw [hD 9]
    exact ⟨(Chg.refl W0 g).drew, hb.drew⟩) ?_ (by rfl) (fun w D hD hSw => by
    have hSw' : Chg W0 g w ∧ Box w g 26 (ccL (if D 9 = true then { c with cw := cw2 } else (c))) := hSw
    rw [hD 9 (by decide)] at hSw'
    exact hfin (ra25T c g ri ss mx cw2) w  hSw')
  · intro jq t hj ht
    have : ∀ j, j < 10 → (ra25D j).all (· < 149) = true := by decide
    have := this jq hj
    rw [ht] at this
    rw [sz]
    simpa using this
  · intro iq o ho D a w hSw hDi hcl hs hel K hK
    have hin : iq < 10 := (Array.getElem?_eq_some_iff.1 ho).1
    match iq, hin, ho with
    | 0, _, ho =>
      obtain rfl := Option.some.inj (ho.symm.trans (ra25_0 ps))
      have u5 : a.eval (.tmp 5) = .pointer (some ⟨g, 0, none⟩) := (hel 5 (by decide)).trans e5
      exact op_valW (ra25_0 ps) rfl (v := .pointer (some ⟨g, 2, none⟩)) (by unfold ra25O0 execOp; simp only [u5]; first | (go_simp; done) | (go_simp; with_reducible rfl)) (hK w (fun D' hi' hj' => by
        have hd9 : D' 9 = D 9 := hj' 9 (by decide)
        show Chg W0 g w ∧ Box w g 26 (ccL (if D' 9 = true then { c with cw := cw2 } else (c)))
        rw [hd9]
        exact hSw))
    | 1, _, ho =>
      obtain rfl := Option.some.inj (ho.symm.trans (ra25_1 ps))
      have s0 : a.eval (.tmp 139) = .pointer (some ⟨g, 2, none⟩) := hs 0 139 (by rfl) rfl
      have hn9 : D 9 = false := by
        cases h : D 9 with
        | false => rfl
        | true => exact absurd (hcl 9 _ 1 (ra25_9 ps) (by rfl) h) (by rw [hDi]; simp)
      have hb' : Box w g 26 (ccL c) := by
        have hb2 := hSw.2
        rw [hn9] at hb2
        exact hb2
      have hcl := Box.cell hb' 2 rfl
      exact op_valW (ra25_1 ps) rfl (v := .int .i64 c.cw) (by unfold ra25O1 execOp; simp only [s0]; first | (go_simp; done) | (go_simp; with_reducible rfl)) (hK w (fun D' hi' hj' => by
        have hd9 : D' 9 = D 9 := hj' 9 (by decide)
        show Chg W0 g w ∧ Box w g 26 (ccL (if D' 9 = true then { c with cw := cw2 } else (c)))
        rw [hd9]
        exact hSw))
    | 2, _, ho =>
      obtain rfl := Option.some.inj (ho.symm.trans (ra25_2 ps))
      have u16 : a.eval (.tmp 16) = .int .i64 ri := (hel 16 (by decide)).trans e16
      exact op_valW (ra25_2 ps) rfl (v := .int .i64 ri) (by unfold ra25O2 execOp; simp only [u16]; first | (go_simp; done) | (go_simp; with_reducible rfl)) (hK w (fun D' hi' hj' => by
        have hd9 : D' 9 = D 9 := hj' 9 (by decide)
        show Chg W0 g w ∧ Box w g 26 (ccL (if D' 9 = true then { c with cw := cw2 } else (c)))
        rw [hd9]
        exact hSw))
    | 3, _, ho =>
      obtain rfl := Option.some.inj (ho.symm.trans (ra25_3 ps))
      have s1 : a.eval (.tmp 140) = .int .i64 c.cw := hs 1 140 (by rfl) rfl
      have s2 : a.eval (.tmp 141) = .int .i64 ri := hs 2 141 (by rfl) rfl
      exact op_enterW (ra25_3 ps) rfl (f := 33) (args := #[.int .i64 c.cw, .int .i64 ri]) (by rw [run_call rfl enter33]; simp only [List.map_toArray, List.map_cons, List.map_nil, s1, s2]; try rfl) ((c6 w).mono (fun e w' hh => ⟨_, hh.1, hK w' (fun D' hi' hj' => by
        have hd9 : D' 9 = D 9 := hj' 9 (by decide)
        show Chg W0 g w' ∧ Box w' g 26 (ccL (if D' 9 = true then { c with cw := cw2 } else (c)))
        rw [hd9]
        exact (by rw [hh.2]; exact hSw))⟩))
    | 4, _, ho =>
      obtain rfl := Option.some.inj (ho.symm.trans (ra25_4 ps))
      have u5 : a.eval (.tmp 5) = .pointer (some ⟨g, 0, none⟩) := (hel 5 (by decide)).trans e5
      exact op_valW (ra25_4 ps) rfl (v := .pointer (some ⟨g, 8, none⟩)) (by unfold ra25O4 execOp; simp only [u5]; first | (go_simp; done) | (go_simp; with_reducible rfl)) (hK w (fun D' hi' hj' => by
        have hd9 : D' 9 = D 9 := hj' 9 (by decide)
        show Chg W0 g w ∧ Box w g 26 (ccL (if D' 9 = true then { c with cw := cw2 } else (c)))
        rw [hd9]
        exact hSw))
    | 5, _, ho =>
      obtain rfl := Option.some.inj (ho.symm.trans (ra25_5 ps))
      have s4 : a.eval (.tmp 143) = .pointer (some ⟨g, 8, none⟩) := hs 4 143 (by rfl) rfl
      have hcl : w.cell? ⟨g, 8, none⟩ = some (.int .i64 c.we) := by
        have hb' := Box.cell hSw.2 8 rfl
        rw [hb']
        cases D 9 <;> rfl
      exact op_valW (ra25_5 ps) rfl (v := .int .i64 c.we) (by unfold ra25O5 execOp; simp only [s4]; first | (go_simp; done) | (go_simp; with_reducible rfl)) (hK w (fun D' hi' hj' => by
        have hd9 : D' 9 = D 9 := hj' 9 (by decide)
        show Chg W0 g w ∧ Box w g 26 (ccL (if D' 9 = true then { c with cw := cw2 } else (c)))
        rw [hd9]
        exact hSw))
    | 6, _, ho =>
      obtain rfl := Option.some.inj (ho.symm.trans (ra25_6 ps))
      have s3 : a.eval (.tmp 142) = .int .i64 ss := hs 3 142 (by rfl) rfl
      have s5 : a.eval (.tmp 144) = .int .i64 c.we := hs 5 144 (by rfl) rfl
      have t142 : a.tmps[142]?.getD undef = .int .i64 ss := by simpa [Act.eval] using s3
      have t144 : a.tmps[144]?.getD undef = .int .i64 c.we := by simpa [Act.eval] using s5
      have hcl : (if ss < c.we then c.we else ss) = mx := hmx
      exact op_valW (ra25_6 ps) rfl (v := .int .i64 mx) (by unfold ra25O6 execOp; skip; first | (go_simp; done) | (go_simp; with_reducible rfl)) (hK w (fun D' hi' hj' => by
        have hd9 : D' 9 = D 9 := hj' 9 (by decide)
        show Chg W0 g w ∧ Box w g 26 (ccL (if D' 9 = true then { c with cw := cw2 } else (c)))
        rw [hd9]
        exact hSw))
    | 7, _, ho =>
      obtain rfl := Option.some.inj (ho.symm.trans (ra25_7 ps))
      have s6 : a.eval (.tmp 145) = .int .i64 mx := hs 6 145 (by rfl) rfl
      have t145 : a.tmps[145]?.getD undef = .int .i64 mx := by simpa [Act.eval] using s6
      have hcl : (if 1073741824 < mx then 1073741824 else mx) = cw2 := hc2
      exact op_valW (ra25_7 ps) rfl (v := .int .i64 cw2) (by unfold ra25O7 execOp; skip; first | (go_simp; done) | (go_simp; with_reducible rfl)) (hK w (fun D' hi' hj' => by
        have hd9 : D' 9 = D 9 := hj' 9 (by decide)
        show Chg W0 g w ∧ Box w g 26 (ccL (if D' 9 = true then { c with cw := cw2 } else (c)))
        rw [hd9]
        exact hSw))
    | 8, _, ho =>
      obtain rfl := Option.some.inj (ho.symm.trans (ra25_8 ps))
      have u5 : a.eval (.tmp 5) = .pointer (some ⟨g, 0, none⟩) := (hel 5 (by decide)).trans e5
      exact op_valW (ra25_8 ps) rfl (v := .pointer (some ⟨g, 2, none⟩)) (by unfold ra25O8 execOp; simp only [u5]; first | (go_simp; done) | (go_simp; with_reducible rfl)) (hK w (fun D' hi' hj' => by
        have hd9 : D' 9 = D 9 := hj' 9 (by decide)
        show Chg W0 g w ∧ Box w g 26 (ccL (if D' 9 = true then { c with cw := cw2 } else (c)))
        rw [hd9]
        exact hSw))
    | 9, _, ho =>
      obtain rfl := Option.some.inj (ho.symm.trans (ra25_9 ps))
      have s8 : a.eval (.tmp 147) = .pointer (some ⟨g, 2, none⟩) := hs 8 147 (by rfl) rfl
      have s7 : a.eval (.tmp 146) = .int .i64 cw2 := hs 7 146 (by rfl) rfl
      have hbx : Box w g 26 (ccL c) := by
        have hb' := hSw.2
        rw [hDi] at hb'
        exact hb'
      have hcl := Box.cell hbx 2 rfl
      have hfz := Box.frozen hbx 2
      exact op_stoW (ra25_9 ps) rfl rfl (w' := (w.setCell ⟨g, 2, none⟩ (.int .i64 cw2))) (by unfold ra25O9 execOp; simp only [s8, s7]; first | (go_simp; done) | (go_simp; with_reducible rfl)) (hK _ (fun D' hi' hj' => by
        have hd9 : D' 9 = true := hi'
        show Chg W0 g (w.setCell ⟨g, 2, none⟩ (.int .i64 cw2)) ∧ Box (w.setCell ⟨g, 2, none⟩ (.int .i64 cw2)) g 26 (ccL (if D' 9 = true then { c with cw := cw2 } else (c)))
        rw [hd9]
        exact ⟨hSw.1.set _ _, hbx.set 2 _⟩))
    | iq + 10, hin, _ => exact absurd hin (by omega)
end Go.Proofs.Ytikcjdoeoghoeaa
