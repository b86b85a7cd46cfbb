/- beginEpoch: the region that draws, calls and stores. -/
import Derived.Test.YtikcjdoeoghoeaaDets
import Derived.Test.YtikcjdoeoghoeaaKCurve
namespace Go.Proofs.Ytikcjdoeoghoeaa
open Go.ChangeShapes Go.WideShapes Go.ChangeAt Go.RowKit
set_option linter.unusedVariables false

theorem enter41 (args : Array Value) (w : World) : (callFunc 41 args).run Try.prog w = .ok (.enter 41 args) w := by kernel_rfl
theorem enter57 (args : Array Value) (w : World) : (callFunc 57 args).run Try.prog w = .ok (.enter 57 args) w := by kernel_rfl
def ep2O0 (ps : String) : Oper := { dst := some 38, op := .move (.tmp 0), type := 65, pos := ps, after := #[], guard := none }
def ep2O1 (ps : String) : Oper := { dst := some 39, op := .move (.tmp 0), type := 65, pos := ps, after := #[], guard := none }
def ep2O2 (ps : String) : Oper := { dst := some 40, op := .nilCheck (.tmp 39), type := 0, pos := ps, after := #[{ on := 1, ground := .data }], guard := none }
def ep2O3 (ps : String) : Oper := { dst := some 41, op := .fieldAddr 48 (.tmp 40) 0, type := 0, pos := ps, after := #[{ on := 2, ground := .data }], guard := none }
def ep2O4 (ps : String) : Oper := { dst := some 42, op := .fieldAddr 26 (.tmp 41) 5, type := 0, pos := ps, after := #[{ on := 3, ground := .data }], guard := none }
def ep2O5 (ps : String) : Oper := { dst := some 43, op := .load 3 (.tmp 42), type := 3, pos := ps, after := #[{ on := 4, ground := .data }], guard := none }
def ep2O6 (ps : String) : Oper := { dst := some 44, op := .move (.tmp 0), type := 65, pos := ps, after := #[], guard := none }
def ep2O7 (ps : String) : Oper := { dst := some 45, op := .nilCheck (.tmp 44), type := 0, pos := ps, after := #[{ on := 6, ground := .data }], guard := none }
def ep2O8 (ps : String) : Oper := { dst := some 46, op := .fieldAddr 48 (.tmp 45) 0, type := 0, pos := ps, after := #[{ on := 7, ground := .data }], guard := none }
def ep2O9 (ps : String) : Oper := { dst := some 47, op := .fieldAddr 26 (.tmp 46) 2, type := 0, pos := ps, after := #[{ on := 8, ground := .data }], guard := none }
def ep2O10 (ps : String) : Oper := { dst := some 48, op := .load 3 (.tmp 47), type := 3, pos := ps, after := #[{ on := 9, ground := .data }], guard := none }
def ep2O11 (ps : String) : Oper := { dst := some 49, op := .binOp .sub 3 (.tmp 43) (.tmp 48) 3, type := 3, pos := ps, after := #[{ on := 5, ground := .data }, { on := 10, ground := .data }], guard := none }
def ep2O12 (ps : String) : Oper := { dst := some 50, op := .move (.tmp 0), type := 65, pos := ps, after := #[], guard := none }
def ep2O13 (ps : String) : Oper := { dst := some 51, op := .nilCheck (.tmp 50), type := 0, pos := ps, after := #[{ on := 12, ground := .data }], guard := none }
def ep2O14 (ps : String) : Oper := { dst := some 52, op := .fieldAddr 48 (.tmp 51) 0, type := 0, pos := ps, after := #[{ on := 13, ground := .data }], guard := none }
def ep2O15 (ps : String) : Oper := { dst := some 53, op := .fieldAddr 26 (.tmp 52) 1, type := 0, pos := ps, after := #[{ on := 14, ground := .data }], guard := none }
def ep2O16 (ps : String) : Oper := { dst := some 54, op := .load 3 (.tmp 53), type := 3, pos := ps, after := #[{ on := 15, ground := .data }], guard := none }
def ep2O17 (ps : String) : Oper := { dst := some 55, op := .binOp .mul 3 (.const (.int .i64 4)) (.tmp 54) 3, type := 3, pos := ps, after := #[{ on := 16, ground := .data }], guard := none }
def ep2O18 (ps : String) : Oper := { dst := some 56, op := .call { callee := .value (.func 41), args := #[.tmp 49, .const (.int .i64 10000000000), .tmp 55], argTypes := #[3, 3, 3] }, type := 3, pos := ps, after := #[{ on := 11, ground := .data }, { on := 17, ground := .data }], guard := none }
def ep2O19 (ps : String) : Oper := { dst := some 57, op := .call { callee := .value (.func 57), args := #[.tmp 56], argTypes := #[3] }, type := 3, pos := ps, after := #[{ on := 18, ground := .data }, { on := 18, ground := .chain }], guard := none }
def ep2O20 (ps : String) : Oper := { dst := some 58, op := .nilCheck (.tmp 38), type := 0, pos := ps, after := #[{ on := 0, ground := .data }, { on := 0, ground := .phase }, { on := 1, ground := .phase }, { on := 2, ground := .phase }, { on := 3, ground := .phase }, { on := 4, ground := .phase }, { on := 5, ground := .phase }, { on := 6, ground := .phase }, { on := 7, ground := .phase }, { on := 8, ground := .phase }, { on := 9, ground := .phase }, { on := 10, ground := .phase }, { on := 11, ground := .phase }, { on := 12, ground := .phase }, { on := 13, ground := .phase }, { on := 14, ground := .phase }, { on := 15, ground := .phase }, { on := 16, ground := .phase }, { on := 17, ground := .phase }, { on := 18, ground := .phase }, { on := 19, ground := .phase }], guard := none }
def ep2O21 (ps : String) : Oper := { dst := some 59, op := .fieldAddr 48 (.tmp 58) 0, type := 0, pos := ps, after := #[{ on := 20, ground := .data }, { on := 0, ground := .phase }, { on := 1, ground := .phase }, { on := 2, ground := .phase }, { on := 3, ground := .phase }, { on := 4, ground := .phase }, { on := 5, ground := .phase }, { on := 6, ground := .phase }, { on := 7, ground := .phase }, { on := 8, ground := .phase }, { on := 9, ground := .phase }, { on := 10, ground := .phase }, { on := 11, ground := .phase }, { on := 12, ground := .phase }, { on := 13, ground := .phase }, { on := 14, ground := .phase }, { on := 15, ground := .phase }, { on := 16, ground := .phase }, { on := 17, ground := .phase }, { on := 18, ground := .phase }, { on := 19, ground := .phase }], guard := none }
def ep2O22 (ps : String) : Oper := { dst := some 60, op := .fieldAddr 26 (.tmp 59) 7, type := 0, pos := ps, after := #[{ on := 21, ground := .data }, { on := 0, ground := .phase }, { on := 1, ground := .phase }, { on := 2, ground := .phase }, { on := 3, ground := .phase }, { on := 4, ground := .phase }, { on := 5, ground := .phase }, { on := 6, ground := .phase }, { on := 7, ground := .phase }, { on := 8, ground := .phase }, { on := 9, ground := .phase }, { on := 10, ground := .phase }, { on := 11, ground := .phase }, { on := 12, ground := .phase }, { on := 13, ground := .phase }, { on := 14, ground := .phase }, { on := 15, ground := .phase }, { on := 16, ground := .phase }, { on := 17, ground := .phase }, { on := 18, ground := .phase }, { on := 19, ground := .phase }], guard := none }
def ep2O23 (ps : String) : Oper := { dst := none, op := .store 3 (.tmp 60) (.tmp 57), type := 0, pos := ps, after := #[{ on := 22, ground := .data }, { on := 19, ground := .data }, { on := 19, ground := .chain }, { on := 0, ground := .phase }, { on := 1, ground := .phase }, { on := 2, ground := .phase }, { on := 3, ground := .phase }, { on := 4, ground := .phase }, { on := 5, ground := .phase }, { on := 6, ground := .phase }, { on := 7, ground := .phase }, { on := 8, ground := .phase }, { on := 9, ground := .phase }, { on := 10, ground := .phase }, { on := 11, ground := .phase }, { on := 12, ground := .phase }, { on := 13, ground := .phase }, { on := 14, ground := .phase }, { on := 15, ground := .phase }, { on := 16, ground := .phase }, { on := 17, ground := .phase }, { on := 18, ground := .phase }, { on := 19, ground := .phase }], guard := none }
def ep2 (ps : String) : Array Oper := #[ep2O0 ps, ep2O1 ps, ep2O2 ps, ep2O3 ps, ep2O4 ps, ep2O5 ps, ep2O6 ps, ep2O7 ps, ep2O8 ps, ep2O9 ps, ep2O10 ps, ep2O11 ps, ep2O12 ps, ep2O13 ps, ep2O14 ps, ep2O15 ps, ep2O16 ps, ep2O17 ps, ep2O18 ps, ep2O19 ps, ep2O20 ps, ep2O21 ps, ep2O22 ps, ep2O23 ps]
theorem ep2_0 (ps : String) : (ep2 ps)[0]? = some (ep2O0 ps) := rfl
theorem ep2_1 (ps : String) : (ep2 ps)[1]? = some (ep2O1 ps) := rfl
theorem ep2_2 (ps : String) : (ep2 ps)[2]? = some (ep2O2 ps) := rfl
theorem ep2_3 (ps : String) : (ep2 ps)[3]? = some (ep2O3 ps) := rfl
theorem ep2_4 (ps : String) : (ep2 ps)[4]? = some (ep2O4 ps) := rfl
theorem ep2_5 (ps : String) : (ep2 ps)[5]? = some (ep2O5 ps) := rfl
theorem ep2_6 (ps : String) : (ep2 ps)[6]? = some (ep2O6 ps) := rfl
theorem ep2_7 (ps : String) : (ep2 ps)[7]? = some (ep2O7 ps) := rfl
theorem ep2_8 (ps : String) : (ep2 ps)[8]? = some (ep2O8 ps) := rfl
theorem ep2_9 (ps : String) : (ep2 ps)[9]? = some (ep2O9 ps) := rfl
theorem ep2_10 (ps : String) : (ep2 ps)[10]? = some (ep2O10 ps) := rfl
theorem ep2_11 (ps : String) : (ep2 ps)[11]? = some (ep2O11 ps) := rfl
theorem ep2_12 (ps : String) : (ep2 ps)[12]? = some (ep2O12 ps) := rfl
theorem ep2_13 (ps : String) : (ep2 ps)[13]? = some (ep2O13 ps) := rfl
theorem ep2_14 (ps : String) : (ep2 ps)[14]? = some (ep2O14 ps) := rfl
theorem ep2_15 (ps : String) : (ep2 ps)[15]? = some (ep2O15 ps) := rfl
theorem ep2_16 (ps : String) : (ep2 ps)[16]? = some (ep2O16 ps) := rfl
theorem ep2_17 (ps : String) : (ep2 ps)[17]? = some (ep2O17 ps) := rfl
theorem ep2_18 (ps : String) : (ep2 ps)[18]? = some (ep2O18 ps) := rfl
theorem ep2_19 (ps : String) : (ep2 ps)[19]? = some (ep2O19 ps) := rfl
theorem ep2_20 (ps : String) : (ep2 ps)[20]? = some (ep2O20 ps) := rfl
theorem ep2_21 (ps : String) : (ep2 ps)[21]? = some (ep2O21 ps) := rfl
theorem ep2_22 (ps : String) : (ep2 ps)[22]? = some (ep2O22 ps) := rfl
theorem ep2_23 (ps : String) : (ep2 ps)[23]? = some (ep2O23 ps) := rfl
def ep2D : Nat → Option Tmp
  | 0 => some 38
  | 1 => some 39
  | 2 => some 40
  | 3 => some 41
  | 4 => some 42
  | 5 => some 43
  | 6 => some 44
  | 7 => some 45
  | 8 => some 46
  | 9 => some 47
  | 10 => some 48
  | 11 => some 49
  | 12 => some 50
  | 13 => some 51
  | 14 => some 52
  | 15 => some 53
  | 16 => some 54
  | 17 => some 55
  | 18 => some 56
  | 19 => some 57
  | 20 => some 58
  | 21 => some 59
  | 22 => some 60
  | 23 => none
  | _ => none
def ep2T (c : Cc) (g : Nat) (y z : Int) : Nat → Value
  | 0 => .pointer (some ⟨g, 0, none⟩)
  | 1 => .pointer (some ⟨g, 0, none⟩)
  | 2 => .pointer (some ⟨g, 0, none⟩)
  | 3 => .pointer (some ⟨g, 0, none⟩)
  | 4 => .pointer (some ⟨g, 5, none⟩)
  | 5 => .int .i64 c.wm
  | 6 => .pointer (some ⟨g, 0, none⟩)
  | 7 => .pointer (some ⟨g, 0, none⟩)
  | 8 => .pointer (some ⟨g, 0, none⟩)
  | 9 => .pointer (some ⟨g, 2, none⟩)
  | 10 => .int .i64 c.cw
  | 11 => .int .i64 (c.wm - c.cw)
  | 12 => .pointer (some ⟨g, 0, none⟩)
  | 13 => .pointer (some ⟨g, 0, none⟩)
  | 14 => .pointer (some ⟨g, 0, none⟩)
  | 15 => .pointer (some ⟨g, 1, none⟩)
  | 16 => .int .i64 c.ms
  | 17 => .int .i64 (4 * c.ms)
  | 18 => .int .i64 y
  | 19 => .int .i64 z
  | 20 => .pointer (some ⟨g, 0, none⟩)
  | 21 => .pointer (some ⟨g, 0, none⟩)
  | 22 => .pointer (some ⟨g, 7, none⟩)
  | 23 => undef
  | _ => undef
set_option maxRecDepth 100000 in
set_option maxHeartbeats 4000000 in
theorem ep2_reg {ps : String} {Q : Exit → Act → World → Prop} {a0 : Act} {W0 : World} (sz : a0.tmps.size = 74) (c : Cc) (g : Nat) (y z : Int)
    (e0 : a0.eval (.tmp 0) = .pointer (some ⟨g, 0, none⟩))
    (hb : Box W0 g 48 (ccL c)) (hw1 : IntKind.i64.wrap (c.wm - c.cw) = c.wm - c.cw) (hw2 : IntKind.i64.wrap (4 * c.ms) = 4 * c.ms) (c1 : ∀ W, Calls Try.prog 41 #[.int .i64 (c.wm - c.cw), .int .i64 10000000000, .int .i64 (4 * c.ms)] W fun e w' => e = .returned (.int .i64 y) ∧ ∃ n, w' = W.drewN n) (c2 : ∀ W, Calls Try.prog 57 #[.int .i64 y] W fun e w' => e = .returned (.int .i64 z) ∧ w' = W)
    (hfin : ∀ (T : Nat → Value) w, Chg W0 g w ∧ Box w g 48 (ccL (if true = true then { c with ck := z } else (c))) → Q .normal (((((((((((((((((((((((a0.put (some 38) (T 0)).put (some 39) (T 1)).put (some 40) (T 2)).put (some 41) (T 3)).put (some 42) (T 4)).put (some 43) (T 5)).put (some 44) (T 6)).put (some 45) (T 7)).put (some 46) (T 8)).put (some 47) (T 9)).put (some 48) (T 10)).put (some 49) (T 11)).put (some 50) (T 12)).put (some 51) (T 13)).put (some 52) (T 14)).put (some 53) (T 15)).put (some 54) (T 16)).put (some 55) (T 17)).put (some 56) (T 18)).put (some 57) (T 19)).put (some 58) (T 20)).put (some 59) (T 21)).put (some 60) (T 22)) w) :
    (Code.region 2 (ep2 ps) true).wp Try.prog Q a0 W0 := by
  refine wp_region_dets (by kernel_rfl) 24 rfl ep2D ?_ (by decide) (ep2T c g y z) (fun D w => Chg W0 g w ∧ Box w g 48 (ccL (if D 23 = true then { c with ck := z } else (c)))) (fun D hD => by
    show Chg W0 g W0.drew ∧ Box W0.drew g 48 (ccL (if D 23 = true then { c with ck := z } else (c)))
    rw [hD 23]
    exact ⟨(Chg.refl W0 g).drew, hb.drew⟩) ?_ (by rfl) (fun w D hD hSw => by
    have hSw' : Chg W0 g w ∧ Box w g 48 (ccL (if D 23 = true then { c with ck := z } else (c))) := hSw
    rw [hD 23 (by decide)] at hSw'
    exact hfin (ep2T c g y z) w  hSw')
  · intro jq t hj ht
    have : ∀ j, j < 24 → (ep2D j).all (· < 74) = true := by decide
    have := this jq hj
    rw [ht] at this
    rw [sz]
    simpa using this
  · intro iq o ho D a w hSw hDi hcl hs hel K hK
    have hin : iq < 24 := (Array.getElem?_eq_some_iff.1 ho).1
    match iq, hin, ho with
    | 0, _, ho =>
      obtain rfl := Option.some.inj (ho.symm.trans (ep2_0 ps))
      have u0 : a.eval (.tmp 0) = .pointer (some ⟨g, 0, none⟩) := (hel 0 (by decide)).trans e0
      exact op_valW (ep2_0 ps) rfl (v := .pointer (some ⟨g, 0, none⟩)) (by unfold ep2O0 execOp; simp only [u0]; first | (go_simp; done) | (go_simp; with_reducible rfl)) (hK w (fun D' hi' hj' => by
        have hd23 : D' 23 = D 23 := hj' 23 (by decide)
        show Chg W0 g w ∧ Box w g 48 (ccL (if D' 23 = true then { c with ck := z } else (c)))
        rw [hd23]
        exact hSw))
    | 1, _, ho =>
      obtain rfl := Option.some.inj (ho.symm.trans (ep2_1 ps))
      have u0 : a.eval (.tmp 0) = .pointer (some ⟨g, 0, none⟩) := (hel 0 (by decide)).trans e0
      exact op_valW (ep2_1 ps) rfl (v := .pointer (some ⟨g, 0, none⟩)) (by unfold ep2O1 execOp; simp only [u0]; first | (go_simp; done) | (go_simp; with_reducible rfl)) (hK w (fun D' hi' hj' => by
        have hd23 : D' 23 = D 23 := hj' 23 (by decide)
        show Chg W0 g w ∧ Box w g 48 (ccL (if D' 23 = true then { c with ck := z } else (c)))
        rw [hd23]
        exact hSw))
    | 2, _, ho =>
      obtain rfl := Option.some.inj (ho.symm.trans (ep2_2 ps))
      have s1 : a.eval (.tmp 39) = .pointer (some ⟨g, 0, none⟩) := hs 1 39 (by rfl) rfl
      exact op_valW (ep2_2 ps) rfl (v := .pointer (some ⟨g, 0, none⟩)) (by unfold ep2O2 execOp; simp only [s1]; first | (go_simp; done) | (go_simp; with_reducible rfl)) (hK w (fun D' hi' hj' => by
        have hd23 : D' 23 = D 23 := hj' 23 (by decide)
        show Chg W0 g w ∧ Box w g 48 (ccL (if D' 23 = true then { c with ck := z } else (c)))
        rw [hd23]
        exact hSw))
    | 3, _, ho =>
      obtain rfl := Option.some.inj (ho.symm.trans (ep2_3 ps))
      have s2 : a.eval (.tmp 40) = .pointer (some ⟨g, 0, none⟩) := hs 2 40 (by rfl) rfl
      exact op_valW (ep2_3 ps) rfl (v := .pointer (some ⟨g, 0, none⟩)) (by unfold ep2O3 execOp; simp only [s2]; first | (go_simp; done) | (go_simp; with_reducible rfl)) (hK w (fun D' hi' hj' => by
        have hd23 : D' 23 = D 23 := hj' 23 (by decide)
        show Chg W0 g w ∧ Box w g 48 (ccL (if D' 23 = true then { c with ck := z } else (c)))
        rw [hd23]
        exact hSw))
    | 4, _, ho =>
      obtain rfl := Option.some.inj (ho.symm.trans (ep2_4 ps))
      have s3 : a.eval (.tmp 41) = .pointer (some ⟨g, 0, none⟩) := hs 3 41 (by rfl) rfl
      exact op_valW (ep2_4 ps) rfl (v := .pointer (some ⟨g, 5, none⟩)) (by unfold ep2O4 execOp; simp only [s3]; first | (go_simp; done) | (go_simp; with_reducible rfl)) (hK w (fun D' hi' hj' => by
        have hd23 : D' 23 = D 23 := hj' 23 (by decide)
        show Chg W0 g w ∧ Box w g 48 (ccL (if D' 23 = true then { c with ck := z } else (c)))
        rw [hd23]
        exact hSw))
    | 5, _, ho =>
      obtain rfl := Option.some.inj (ho.symm.trans (ep2_5 ps))
      have s4 : a.eval (.tmp 42) = .pointer (some ⟨g, 5, none⟩) := hs 4 42 (by rfl) rfl
      have hcl : w.cell? ⟨g, 5, none⟩ = some (.int .i64 c.wm) := by
        have hb' := Box.cell hSw.2 5 rfl
        rw [hb']
        cases D 23 <;> rfl
      exact op_valW (ep2_5 ps) rfl (v := .int .i64 c.wm) (by unfold ep2O5 execOp; simp only [s4]; first | (go_simp; done) | (go_simp; with_reducible rfl)) (hK w (fun D' hi' hj' => by
        have hd23 : D' 23 = D 23 := hj' 23 (by decide)
        show Chg W0 g w ∧ Box w g 48 (ccL (if D' 23 = true then { c with ck := z } else (c)))
        rw [hd23]
        exact hSw))
    | 6, _, ho =>
      obtain rfl := Option.some.inj (ho.symm.trans (ep2_6 ps))
      have u0 : a.eval (.tmp 0) = .pointer (some ⟨g, 0, none⟩) := (hel 0 (by decide)).trans e0
      exact op_valW (ep2_6 ps) rfl (v := .pointer (some ⟨g, 0, none⟩)) (by unfold ep2O6 execOp; simp only [u0]; first | (go_simp; done) | (go_simp; with_reducible rfl)) (hK w (fun D' hi' hj' => by
        have hd23 : D' 23 = D 23 := hj' 23 (by decide)
        show Chg W0 g w ∧ Box w g 48 (ccL (if D' 23 = true then { c with ck := z } else (c)))
        rw [hd23]
        exact hSw))
    | 7, _, ho =>
      obtain rfl := Option.some.inj (ho.symm.trans (ep2_7 ps))
      have s6 : a.eval (.tmp 44) = .pointer (some ⟨g, 0, none⟩) := hs 6 44 (by rfl) rfl
      exact op_valW (ep2_7 ps) rfl (v := .pointer (some ⟨g, 0, none⟩)) (by unfold ep2O7 execOp; simp only [s6]; first | (go_simp; done) | (go_simp; with_reducible rfl)) (hK w (fun D' hi' hj' => by
        have hd23 : D' 23 = D 23 := hj' 23 (by decide)
        show Chg W0 g w ∧ Box w g 48 (ccL (if D' 23 = true then { c with ck := z } else (c)))
        rw [hd23]
        exact hSw))
    | 8, _, ho =>
      obtain rfl := Option.some.inj (ho.symm.trans (ep2_8 ps))
      have s7 : a.eval (.tmp 45) = .pointer (some ⟨g, 0, none⟩) := hs 7 45 (by rfl) rfl
      exact op_valW (ep2_8 ps) rfl (v := .pointer (some ⟨g, 0, none⟩)) (by unfold ep2O8 execOp; simp only [s7]; first | (go_simp; done) | (go_simp; with_reducible rfl)) (hK w (fun D' hi' hj' => by
        have hd23 : D' 23 = D 23 := hj' 23 (by decide)
        show Chg W0 g w ∧ Box w g 48 (ccL (if D' 23 = true then { c with ck := z } else (c)))
        rw [hd23]
        exact hSw))
    | 9, _, ho =>
      obtain rfl := Option.some.inj (ho.symm.trans (ep2_9 ps))
      have s8 : a.eval (.tmp 46) = .pointer (some ⟨g, 0, none⟩) := hs 8 46 (by rfl) rfl
      exact op_valW (ep2_9 ps) rfl (v := .pointer (some ⟨g, 2, none⟩)) (by unfold ep2O9 execOp; simp only [s8]; first | (go_simp; done) | (go_simp; with_reducible rfl)) (hK w (fun D' hi' hj' => by
        have hd23 : D' 23 = D 23 := hj' 23 (by decide)
        show Chg W0 g w ∧ Box w g 48 (ccL (if D' 23 = true then { c with ck := z } else (c)))
        rw [hd23]
        exact hSw))
    | 10, _, ho =>
      obtain rfl := Option.some.inj (ho.symm.trans (ep2_10 ps))
      have s9 : a.eval (.tmp 47) = .pointer (some ⟨g, 2, none⟩) := hs 9 47 (by rfl) rfl
      have hcl : w.cell? ⟨g, 2, none⟩ = some (.int .i64 c.cw) := by
        have hb' := Box.cell hSw.2 2 rfl
        rw [hb']
        cases D 23 <;> rfl
      exact op_valW (ep2_10 ps) rfl (v := .int .i64 c.cw) (by unfold ep2O10 execOp; simp only [s9]; first | (go_simp; done) | (go_simp; with_reducible rfl)) (hK w (fun D' hi' hj' => by
        have hd23 : D' 23 = D 23 := hj' 23 (by decide)
        show Chg W0 g w ∧ Box w g 48 (ccL (if D' 23 = true then { c with ck := z } else (c)))
        rw [hd23]
        exact hSw))
    | 11, _, ho =>
      obtain rfl := Option.some.inj (ho.symm.trans (ep2_11 ps))
      have s5 : a.eval (.tmp 43) = .int .i64 c.wm := hs 5 43 (by rfl) rfl
      have s10 : a.eval (.tmp 48) = .int .i64 c.cw := hs 10 48 (by rfl) rfl
      have hcl : IntKind.i64.wrap (c.wm - c.cw) = c.wm - c.cw := hw1
      exact op_valW (ep2_11 ps) rfl (v := .int .i64 (c.wm - c.cw)) (by unfold ep2O11 execOp; simp only [s5, s10]; first | (go_simp; done) | (go_simp; with_reducible rfl)) (hK w (fun D' hi' hj' => by
        have hd23 : D' 23 = D 23 := hj' 23 (by decide)
        show Chg W0 g w ∧ Box w g 48 (ccL (if D' 23 = true then { c with ck := z } else (c)))
        rw [hd23]
        exact hSw))
    | 12, _, ho =>
      obtain rfl := Option.some.inj (ho.symm.trans (ep2_12 ps))
      have u0 : a.eval (.tmp 0) = .pointer (some ⟨g, 0, none⟩) := (hel 0 (by decide)).trans e0
      exact op_valW (ep2_12 ps) rfl (v := .pointer (some ⟨g, 0, none⟩)) (by unfold ep2O12 execOp; simp only [u0]; first | (go_simp; done) | (go_simp; with_reducible rfl)) (hK w (fun D' hi' hj' => by
        have hd23 : D' 23 = D 23 := hj' 23 (by decide)
        show Chg W0 g w ∧ Box w g 48 (ccL (if D' 23 = true then { c with ck := z } else (c)))
        rw [hd23]
        exact hSw))
    | 13, _, ho =>
      obtain rfl := Option.some.inj (ho.symm.trans (ep2_13 ps))
      have s12 : a.eval (.tmp 50) = .pointer (some ⟨g, 0, none⟩) := hs 12 50 (by rfl) rfl
      exact op_valW (ep2_13 ps) rfl (v := .pointer (some ⟨g, 0, none⟩)) (by unfold ep2O13 execOp; simp only [s12]; first | (go_simp; done) | (go_simp; with_reducible rfl)) (hK w (fun D' hi' hj' => by
        have hd23 : D' 23 = D 23 := hj' 23 (by decide)
        show Chg W0 g w ∧ Box w g 48 (ccL (if D' 23 = true then { c with ck := z } else (c)))
        rw [hd23]
        exact hSw))
    | 14, _, ho =>
      obtain rfl := Option.some.inj (ho.symm.trans (ep2_14 ps))
      have s13 : a.eval (.tmp 51) = .pointer (some ⟨g, 0, none⟩) := hs 13 51 (by rfl) rfl
      exact op_valW (ep2_14 ps) rfl (v := .pointer (some ⟨g, 0, none⟩)) (by unfold ep2O14 execOp; simp only [s13]; first | (go_simp; done) | (go_simp; with_reducible rfl)) (hK w (fun D' hi' hj' => by
        have hd23 : D' 23 = D 23 := hj' 23 (by decide)
        show Chg W0 g w ∧ Box w g 48 (ccL (if D' 23 = true then { c with ck := z } else (c)))
        rw [hd23]
        exact hSw))
    | 15, _, ho =>
      obtain rfl := Option.some.inj (ho.symm.trans (ep2_15 ps))
      have s14 : a.eval (.tmp 52) = .pointer (some ⟨g, 0, none⟩) := hs 14 52 (by rfl) rfl
      exact op_valW (ep2_15 ps) rfl (v := .pointer (some ⟨g, 1, none⟩)) (by unfold ep2O15 execOp; simp only [s14]; first | (go_simp; done) | (go_simp; with_reducible rfl)) (hK w (fun D' hi' hj' => by
        have hd23 : D' 23 = D 23 := hj' 23 (by decide)
        show Chg W0 g w ∧ Box w g 48 (ccL (if D' 23 = true then { c with ck := z } else (c)))
        rw [hd23]
        exact hSw))
    | 16, _, ho =>
      obtain rfl := Option.some.inj (ho.symm.trans (ep2_16 ps))
      have s15 : a.eval (.tmp 53) = .pointer (some ⟨g, 1, none⟩) := hs 15 53 (by rfl) rfl
      have hcl : w.cell? ⟨g, 1, none⟩ = some (.int .i64 c.ms) := by
        have hb' := Box.cell hSw.2 1 rfl
        rw [hb']
        cases D 23 <;> rfl
      exact op_valW (ep2_16 ps) rfl (v := .int .i64 c.ms) (by unfold ep2O16 execOp; simp only [s15]; first | (go_simp; done) | (go_simp; with_reducible rfl)) (hK w (fun D' hi' hj' => by
        have hd23 : D' 23 = D 23 := hj' 23 (by decide)
        show Chg W0 g w ∧ Box w g 48 (ccL (if D' 23 = true then { c with ck := z } else (c)))
        rw [hd23]
        exact hSw))
    | 17, _, ho =>
      obtain rfl := Option.some.inj (ho.symm.trans (ep2_17 ps))
      have s16 : a.eval (.tmp 54) = .int .i64 c.ms := hs 16 54 (by rfl) rfl
      have hcl : IntKind.i64.wrap (4 * c.ms) = 4 * c.ms := hw2
      exact op_valW (ep2_17 ps) rfl (v := .int .i64 (4 * c.ms)) (by unfold ep2O17 execOp; simp only [s16]; first | (go_simp; done) | (go_simp; with_reducible rfl)) (hK w (fun D' hi' hj' => by
        have hd23 : D' 23 = D 23 := hj' 23 (by decide)
        show Chg W0 g w ∧ Box w g 48 (ccL (if D' 23 = true then { c with ck := z } else (c)))
        rw [hd23]
        exact hSw))
    | 18, _, ho =>
      obtain rfl := Option.some.inj (ho.symm.trans (ep2_18 ps))
      have s11 : a.eval (.tmp 49) = .int .i64 (c.wm - c.cw) := hs 11 49 (by rfl) rfl
      have s17 : a.eval (.tmp 55) = .int .i64 (4 * c.ms) := hs 17 55 (by rfl) rfl
      exact op_enterW (ep2_18 ps) rfl (f := 41) (args := #[.int .i64 (c.wm - c.cw), .int .i64 10000000000, .int .i64 (4 * c.ms)]) (by rw [run_call rfl enter41]; simp only [List.map_toArray, List.map_cons, List.map_nil, s11, s17]; try rfl) ((c1 w).mono (fun e w' hh => ⟨_, hh.1, hK w' (fun D' hi' hj' => by
        have hd23 : D' 23 = D 23 := hj' 23 (by decide)
        show Chg W0 g w' ∧ Box w' g 48 (ccL (if D' 23 = true then { c with ck := z } else (c)))
        rw [hd23]
        exact (by obtain ⟨nn, hq⟩ := hh.2; rw [hq]; exact ⟨hSw.1.drewN nn, hSw.2.drewN nn⟩))⟩))
    | 19, _, ho =>
      obtain rfl := Option.some.inj (ho.symm.trans (ep2_19 ps))
      have s18 : a.eval (.tmp 56) = .int .i64 y := hs 18 56 (by rfl) rfl
      exact op_enterW (ep2_19 ps) rfl (f := 57) (args := #[.int .i64 y]) (by rw [run_call rfl enter57]; simp only [List.map_toArray, List.map_cons, List.map_nil, s18]; try rfl) ((c2 w).mono (fun e w' hh => ⟨_, hh.1, hK w' (fun D' hi' hj' => by
        have hd23 : D' 23 = D 23 := hj' 23 (by decide)
        show Chg W0 g w' ∧ Box w' g 48 (ccL (if D' 23 = true then { c with ck := z } else (c)))
        rw [hd23]
        exact (by rw [hh.2]; exact hSw))⟩))
    | 20, _, ho =>
      obtain rfl := Option.some.inj (ho.symm.trans (ep2_20 ps))
      have s0 : a.eval (.tmp 38) = .pointer (some ⟨g, 0, none⟩) := hs 0 38 (by rfl) rfl
      exact op_valW (ep2_20 ps) rfl (v := .pointer (some ⟨g, 0, none⟩)) (by unfold ep2O20 execOp; simp only [s0]; first | (go_simp; done) | (go_simp; with_reducible rfl)) (hK w (fun D' hi' hj' => by
        have hd23 : D' 23 = D 23 := hj' 23 (by decide)
        show Chg W0 g w ∧ Box w g 48 (ccL (if D' 23 = true then { c with ck := z } else (c)))
        rw [hd23]
        exact hSw))
    | 21, _, ho =>
      obtain rfl := Option.some.inj (ho.symm.trans (ep2_21 ps))
      have s20 : a.eval (.tmp 58) = .pointer (some ⟨g, 0, none⟩) := hs 20 58 (by rfl) rfl
      exact op_valW (ep2_21 ps) rfl (v := .pointer (some ⟨g, 0, none⟩)) (by unfold ep2O21 execOp; simp only [s20]; first | (go_simp; done) | (go_simp; with_reducible rfl)) (hK w (fun D' hi' hj' => by
        have hd23 : D' 23 = D 23 := hj' 23 (by decide)
        show Chg W0 g w ∧ Box w g 48 (ccL (if D' 23 = true then { c with ck := z } else (c)))
        rw [hd23]
        exact hSw))
    | 22, _, ho =>
      obtain rfl := Option.some.inj (ho.symm.trans (ep2_22 ps))
      have s21 : a.eval (.tmp 59) = .pointer (some ⟨g, 0, none⟩) := hs 21 59 (by rfl) rfl
      exact op_valW (ep2_22 ps) rfl (v := .pointer (some ⟨g, 7, none⟩)) (by unfold ep2O22 execOp; simp only [s21]; first | (go_simp; done) | (go_simp; with_reducible rfl)) (hK w (fun D' hi' hj' => by
        have hd23 : D' 23 = D 23 := hj' 23 (by decide)
        show Chg W0 g w ∧ Box w g 48 (ccL (if D' 23 = true then { c with ck := z } else (c)))
        rw [hd23]
        exact hSw))
    | 23, _, ho =>
      obtain rfl := Option.some.inj (ho.symm.trans (ep2_23 ps))
      have s22 : a.eval (.tmp 60) = .pointer (some ⟨g, 7, none⟩) := hs 22 60 (by rfl) rfl
      have s19 : a.eval (.tmp 57) = .int .i64 z := hs 19 57 (by rfl) rfl
      have hbx : Box w g 48 (ccL c) := by
        have hb' := hSw.2
        rw [hDi] at hb'
        exact hb'
      have hcl := Box.cell hbx 7 rfl
      have hfz := Box.frozen hbx 7
      exact op_stoW (ep2_23 ps) rfl rfl (w' := (w.setCell ⟨g, 7, none⟩ (.int .i64 z))) (by unfold ep2O23 execOp; simp only [s22, s19]; first | (go_simp; done) | (go_simp; with_reducible rfl)) (hK _ (fun D' hi' hj' => by
        have hd23 : D' 23 = true := hi'
        show Chg W0 g (w.setCell ⟨g, 7, none⟩ (.int .i64 z)) ∧ Box (w.setCell ⟨g, 7, none⟩ (.int .i64 z)) g 48 (ccL (if D' 23 = true then { c with ck := z } else (c)))
        rw [hd23]
        exact ⟨hSw.1.set _ _, hbx.set 7 _⟩))
    | iq + 24, hin, _ => exact absurd hin (by omega)
end Go.Proofs.Ytikcjdoeoghoeaa
