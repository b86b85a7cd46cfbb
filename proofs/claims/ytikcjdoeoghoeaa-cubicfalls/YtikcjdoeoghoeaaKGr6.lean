/- grow: the region that draws, calls and stores. -/
import Derived.Test.YtikcjdoeoghoeaaKEpoch
namespace Go.Proofs.Ytikcjdoeoghoeaa
open Go.ChangeShapes Go.WideShapes Go.ChangeAt Go.RowKit
set_option linter.unusedVariables false

def gr6O0 (ps : String) : Oper := { dst := some 55, op := .move (.tmp 0), type := 65, pos := ps, after := #[], guard := none }
def gr6O1 (ps : String) : Oper := { dst := some 56, op := .move (.tmp 0), type := 65, pos := ps, after := #[], guard := none }
def gr6O2 (ps : String) : Oper := { dst := some 57, op := .nilCheck (.tmp 56), type := 0, pos := ps, after := #[{ on := 1, ground := .data }], guard := none }
def gr6O3 (ps : String) : Oper := { dst := some 58, op := .fieldAddr 48 (.tmp 57) 0, type := 0, pos := ps, after := #[{ on := 2, ground := .data }], guard := none }
def gr6O4 (ps : String) : Oper := { dst := some 59, op := .fieldAddr 26 (.tmp 58) 8, type := 0, pos := ps, after := #[{ on := 3, ground := .data }], guard := none }
def gr6O5 (ps : String) : Oper := { dst := some 60, op := .load 3 (.tmp 59), type := 3, pos := ps, after := #[{ on := 4, ground := .data }], guard := none }
def gr6O6 (ps : String) : Oper := { dst := some 61, op := .move (.tmp 0), type := 65, pos := ps, after := #[], guard := none }
def gr6O7 (ps : String) : Oper := { dst := some 62, op := .nilCheck (.tmp 61), type := 0, pos := ps, after := #[{ on := 6, ground := .data }], guard := none }
def gr6O8 (ps : String) : Oper := { dst := some 63, op := .fieldAddr 48 (.tmp 62) 0, type := 0, pos := ps, after := #[{ on := 7, ground := .data }], guard := none }
def gr6O9 (ps : String) : Oper := { dst := some 64, op := .fieldAddr 26 (.tmp 63) 1, type := 0, pos := ps, after := #[{ on := 8, ground := .data }], guard := none }
def gr6O10 (ps : String) : Oper := { dst := some 65, op := .load 3 (.tmp 64), type := 3, pos := ps, after := #[{ on := 9, ground := .data }], guard := none }
def gr6O11 (ps : String) : Oper := { dst := some 66, op := .binOp .mul 3 (.const (.int .i64 529)) (.tmp 65) 3, type := 3, pos := ps, after := #[{ on := 10, ground := .data }], guard := none }
def gr6O12 (ps : String) : Oper := { dst := some 67, op := .move (.tmp 1), type := 3, pos := ps, after := #[], guard := none }
def gr6O13 (ps : String) : Oper := { dst := some 68, op := .move (.tmp 8), type := 3, pos := ps, after := #[], guard := none }
def gr6O14 (ps : String) : Oper := { dst := some 69, op := .binOp .mul 3 (.const (.int .i64 1000)) (.tmp 68) 3, type := 3, pos := ps, after := #[{ on := 13, ground := .data }], guard := none }
def gr6O15 (ps : String) : Oper := { dst := some 70, op := .call { callee := .value (.func 41), args := #[.tmp 66, .tmp 67, .tmp 69], argTypes := #[3, 3, 3] }, type := 3, pos := ps, after := #[{ on := 11, ground := .data }, { on := 12, ground := .data }, { on := 14, ground := .data }], guard := none }
def gr6O16 (ps : String) : Oper := { dst := some 71, op := .binOp .add 3 (.tmp 60) (.tmp 70) 3, type := 3, pos := ps, after := #[{ on := 5, ground := .data }, { on := 15, ground := .data }], guard := none }
def gr6O17 (ps : String) : Oper := { dst := some 72, op := .call { callee := .builtin .min, args := #[.tmp 71, .const (.int .i64 1073741824)], argTypes := #[3, 3] }, type := 3, pos := ps, after := #[{ on := 16, ground := .data }], guard := none }
def gr6O18 (ps : String) : Oper := { dst := some 73, op := .nilCheck (.tmp 55), type := 0, pos := ps, after := #[{ on := 0, ground := .data }, { on := 0, ground := .phase }, { on := 1, ground := .phase }, { on := 2, ground := .phase }, { on := 3, ground := .phase }, { on := 4, ground := .phase }, { on := 5, ground := .phase }, { on := 6, ground := .phase }, { on := 7, ground := .phase }, { on := 8, ground := .phase }, { on := 9, ground := .phase }, { on := 10, ground := .phase }, { on := 11, ground := .phase }, { on := 12, ground := .phase }, { on := 13, ground := .phase }, { on := 14, ground := .phase }, { on := 15, ground := .phase }, { on := 16, ground := .phase }, { on := 17, ground := .phase }], guard := none }
def gr6O19 (ps : String) : Oper := { dst := some 74, op := .fieldAddr 48 (.tmp 73) 0, type := 0, pos := ps, after := #[{ on := 18, ground := .data }, { on := 0, ground := .phase }, { on := 1, ground := .phase }, { on := 2, ground := .phase }, { on := 3, ground := .phase }, { on := 4, ground := .phase }, { on := 5, ground := .phase }, { on := 6, ground := .phase }, { on := 7, ground := .phase }, { on := 8, ground := .phase }, { on := 9, ground := .phase }, { on := 10, ground := .phase }, { on := 11, ground := .phase }, { on := 12, ground := .phase }, { on := 13, ground := .phase }, { on := 14, ground := .phase }, { on := 15, ground := .phase }, { on := 16, ground := .phase }, { on := 17, ground := .phase }], guard := none }
def gr6O20 (ps : String) : Oper := { dst := some 75, op := .fieldAddr 26 (.tmp 74) 8, type := 0, pos := ps, after := #[{ on := 19, ground := .data }, { on := 0, ground := .phase }, { on := 1, ground := .phase }, { on := 2, ground := .phase }, { on := 3, ground := .phase }, { on := 4, ground := .phase }, { on := 5, ground := .phase }, { on := 6, ground := .phase }, { on := 7, ground := .phase }, { on := 8, ground := .phase }, { on := 9, ground := .phase }, { on := 10, ground := .phase }, { on := 11, ground := .phase }, { on := 12, ground := .phase }, { on := 13, ground := .phase }, { on := 14, ground := .phase }, { on := 15, ground := .phase }, { on := 16, ground := .phase }, { on := 17, ground := .phase }], guard := none }
def gr6O21 (ps : String) : Oper := { dst := none, op := .store 3 (.tmp 75) (.tmp 72), type := 0, pos := ps, after := #[{ on := 20, ground := .data }, { on := 17, ground := .data }, { on := 15, ground := .chain }, { on := 0, ground := .phase }, { on := 1, ground := .phase }, { on := 2, ground := .phase }, { on := 3, ground := .phase }, { on := 4, ground := .phase }, { on := 5, ground := .phase }, { on := 6, ground := .phase }, { on := 7, ground := .phase }, { on := 8, ground := .phase }, { on := 9, ground := .phase }, { on := 10, ground := .phase }, { on := 11, ground := .phase }, { on := 12, ground := .phase }, { on := 13, ground := .phase }, { on := 14, ground := .phase }, { on := 15, ground := .phase }, { on := 16, ground := .phase }, { on := 17, ground := .phase }], guard := none }
def gr6 (ps : String) : Array Oper := #[gr6O0 ps, gr6O1 ps, gr6O2 ps, gr6O3 ps, gr6O4 ps, gr6O5 ps, gr6O6 ps, gr6O7 ps, gr6O8 ps, gr6O9 ps, gr6O10 ps, gr6O11 ps, gr6O12 ps, gr6O13 ps, gr6O14 ps, gr6O15 ps, gr6O16 ps, gr6O17 ps, gr6O18 ps, gr6O19 ps, gr6O20 ps, gr6O21 ps]
theorem gr6_0 (ps : String) : (gr6 ps)[0]? = some (gr6O0 ps) := rfl
theorem gr6_1 (ps : String) : (gr6 ps)[1]? = some (gr6O1 ps) := rfl
theorem gr6_2 (ps : String) : (gr6 ps)[2]? = some (gr6O2 ps) := rfl
theorem gr6_3 (ps : String) : (gr6 ps)[3]? = some (gr6O3 ps) := rfl
theorem gr6_4 (ps : String) : (gr6 ps)[4]? = some (gr6O4 ps) := rfl
theorem gr6_5 (ps : String) : (gr6 ps)[5]? = some (gr6O5 ps) := rfl
theorem gr6_6 (ps : String) : (gr6 ps)[6]? = some (gr6O6 ps) := rfl
theorem gr6_7 (ps : String) : (gr6 ps)[7]? = some (gr6O7 ps) := rfl
theorem gr6_8 (ps : String) : (gr6 ps)[8]? = some (gr6O8 ps) := rfl
theorem gr6_9 (ps : String) : (gr6 ps)[9]? = some (gr6O9 ps) := rfl
theorem gr6_10 (ps : String) : (gr6 ps)[10]? = some (gr6O10 ps) := rfl
theorem gr6_11 (ps : String) : (gr6 ps)[11]? = some (gr6O11 ps) := rfl
theorem gr6_12 (ps : String) : (gr6 ps)[12]? = some (gr6O12 ps) := rfl
theorem gr6_13 (ps : String) : (gr6 ps)[13]? = some (gr6O13 ps) := rfl
theorem gr6_14 (ps : String) : (gr6 ps)[14]? = some (gr6O14 ps) := rfl
theorem gr6_15 (ps : String) : (gr6 ps)[15]? = some (gr6O15 ps) := rfl
theorem gr6_16 (ps : String) : (gr6 ps)[16]? = some (gr6O16 ps) := rfl
theorem gr6_17 (ps : String) : (gr6 ps)[17]? = some (gr6O17 ps) := rfl
theorem gr6_18 (ps : String) : (gr6 ps)[18]? = some (gr6O18 ps) := rfl
theorem gr6_19 (ps : String) : (gr6 ps)[19]? = some (gr6O19 ps) := rfl
theorem gr6_20 (ps : String) : (gr6 ps)[20]? = some (gr6O20 ps) := rfl
theorem gr6_21 (ps : String) : (gr6 ps)[21]? = some (gr6O21 ps) := rfl
def gr6D : Nat → Option Tmp
  | 0 => some 55
  | 1 => some 56
  | 2 => some 57
  | 3 => some 58
  | 4 => some 59
  | 5 => some 60
  | 6 => some 61
  | 7 => some 62
  | 8 => some 63
  | 9 => some 64
  | 10 => some 65
  | 11 => some 66
  | 12 => some 67
  | 13 => some 68
  | 14 => some 69
  | 15 => some 70
  | 16 => some 71
  | 17 => some 72
  | 18 => some 73
  | 19 => some 74
  | 20 => some 75
  | 21 => none
  | _ => none
def gr6T (c : Cc) (g : Nat) (n fr sm we2 : Int) : Nat → Value
  | 0 => .pointer (some ⟨g, 0, none⟩)
  | 1 => .pointer (some ⟨g, 0, none⟩)
  | 2 => .pointer (some ⟨g, 0, none⟩)
  | 3 => .pointer (some ⟨g, 0, none⟩)
  | 4 => .pointer (some ⟨g, 8, none⟩)
  | 5 => .int .i64 c.we
  | 6 => .pointer (some ⟨g, 0, none⟩)
  | 7 => .pointer (some ⟨g, 0, none⟩)
  | 8 => .pointer (some ⟨g, 0, none⟩)
  | 9 => .pointer (some ⟨g, 1, none⟩)
  | 10 => .int .i64 c.ms
  | 11 => .int .i64 (529 * c.ms)
  | 12 => .int .i64 n
  | 13 => .int .i64 c.cw
  | 14 => .int .i64 (1000 * c.cw)
  | 15 => .int .i64 fr
  | 16 => .int .i64 sm
  | 17 => .int .i64 we2
  | 18 => .pointer (some ⟨g, 0, none⟩)
  | 19 => .pointer (some ⟨g, 0, none⟩)
  | 20 => .pointer (some ⟨g, 8, none⟩)
  | 21 => undef
  | _ => undef
set_option maxRecDepth 100000 in
set_option maxHeartbeats 4000000 in
theorem gr6_reg {ps : String} {Q : Exit → Act → World → Prop} {a0 : Act} {W0 : World} (sz : a0.tmps.size = 90) (c : Cc) (g : Nat) (n fr sm we2 : Int)
    (e0 : a0.eval (.tmp 0) = .pointer (some ⟨g, 0, none⟩)) (e1 : a0.eval (.tmp 1) = .int .i64 n) (e8 : a0.eval (.tmp 8) = .int .i64 c.cw)
    (hb : Box W0 g 48 (ccL c)) (hw1 : IntKind.i64.wrap (529 * c.ms) = 529 * c.ms) (hw2 : IntKind.i64.wrap (1000 * c.cw) = 1000 * c.cw) (hw3 : IntKind.i64.wrap (c.we + fr) = sm) (hw4 : (if 1073741824 < sm then 1073741824 else sm) = we2) (c1 : ∀ W, Calls Try.prog 41 #[.int .i64 (529 * c.ms), .int .i64 n, .int .i64 (1000 * c.cw)] W fun e w' => e = .returned (.int .i64 fr) ∧ ∃ n, w' = W.drewN n)
    (hfin : ∀ (T : Nat → Value) w, Chg W0 g w ∧ Box w g 48 (ccL (if true = true then { c with we := we2 } else (c))) → Q .normal (((((((((((((((((((((a0.put (some 55) (T 0)).put (some 56) (T 1)).put (some 57) (T 2)).put (some 58) (T 3)).put (some 59) (T 4)).put (some 60) (T 5)).put (some 61) (T 6)).put (some 62) (T 7)).put (some 63) (T 8)).put (some 64) (T 9)).put (some 65) (T 10)).put (some 66) (T 11)).put (some 67) (T 12)).put (some 68) (T 13)).put (some 69) (T 14)).put (some 70) (T 15)).put (some 71) (T 16)).put (some 72) (T 17)).put (some 73) (T 18)).put (some 74) (T 19)).put (some 75) (T 20)) w) :
    (Code.region 6 (gr6 ps) true).wp Try.prog Q a0 W0 := by
  refine wp_region_dets (by kernel_rfl) 22 rfl gr6D ?_ (by decide) (gr6T c g n fr sm we2) (fun D w => Chg W0 g w ∧ Box w g 48 (ccL (if D 21 = true then { c with we := we2 } else (c)))) (fun D hD => by
    show Chg W0 g W0.drew ∧ Box W0.drew g 48 (ccL (if D 21 = true then { c with we := we2 } else (c)))
    rw [hD 21]
    exact ⟨(Chg.refl W0 g).drew, hb.drew⟩) ?_ (by rfl) (fun w D hD hSw => by
    have hSw' : Chg W0 g w ∧ Box w g 48 (ccL (if D 21 = true then { c with we := we2 } else (c))) := hSw
    rw [hD 21 (by decide)] at hSw'
    exact hfin (gr6T c g n fr sm we2) w  hSw')
  · intro jq t hj ht
    have : ∀ j, j < 22 → (gr6D j).all (· < 90) = true := by decide
    have := this jq hj
    rw [ht] at this
    rw [sz]
    simpa using this
  · intro iq o ho D a w hSw hDi hcl hs hel K hK
    have hin : iq < 22 := (Array.getElem?_eq_some_iff.1 ho).1
    match iq, hin, ho with
    | 0, _, ho =>
      obtain rfl := Option.some.inj (ho.symm.trans (gr6_0 ps))
      have u0 : a.eval (.tmp 0) = .pointer (some ⟨g, 0, none⟩) := (hel 0 (by decide)).trans e0
      exact op_valW (gr6_0 ps) rfl (v := .pointer (some ⟨g, 0, none⟩)) (by unfold gr6O0 execOp; simp only [u0]; first | (go_simp; done) | (go_simp; with_reducible rfl)) (hK w (fun D' hi' hj' => by
        have hd21 : D' 21 = D 21 := hj' 21 (by decide)
        show Chg W0 g w ∧ Box w g 48 (ccL (if D' 21 = true then { c with we := we2 } else (c)))
        rw [hd21]
        exact hSw))
    | 1, _, ho =>
      obtain rfl := Option.some.inj (ho.symm.trans (gr6_1 ps))
      have u0 : a.eval (.tmp 0) = .pointer (some ⟨g, 0, none⟩) := (hel 0 (by decide)).trans e0
      exact op_valW (gr6_1 ps) rfl (v := .pointer (some ⟨g, 0, none⟩)) (by unfold gr6O1 execOp; simp only [u0]; first | (go_simp; done) | (go_simp; with_reducible rfl)) (hK w (fun D' hi' hj' => by
        have hd21 : D' 21 = D 21 := hj' 21 (by decide)
        show Chg W0 g w ∧ Box w g 48 (ccL (if D' 21 = true then { c with we := we2 } else (c)))
        rw [hd21]
        exact hSw))
    | 2, _, ho =>
      obtain rfl := Option.some.inj (ho.symm.trans (gr6_2 ps))
      have s1 : a.eval (.tmp 56) = .pointer (some ⟨g, 0, none⟩) := hs 1 56 (by rfl) rfl
      exact op_valW (gr6_2 ps) rfl (v := .pointer (some ⟨g, 0, none⟩)) (by unfold gr6O2 execOp; simp only [s1]; first | (go_simp; done) | (go_simp; with_reducible rfl)) (hK w (fun D' hi' hj' => by
        have hd21 : D' 21 = D 21 := hj' 21 (by decide)
        show Chg W0 g w ∧ Box w g 48 (ccL (if D' 21 = true then { c with we := we2 } else (c)))
        rw [hd21]
        exact hSw))
    | 3, _, ho =>
      obtain rfl := Option.some.inj (ho.symm.trans (gr6_3 ps))
      have s2 : a.eval (.tmp 57) = .pointer (some ⟨g, 0, none⟩) := hs 2 57 (by rfl) rfl
      exact op_valW (gr6_3 ps) rfl (v := .pointer (some ⟨g, 0, none⟩)) (by unfold gr6O3 execOp; simp only [s2]; first | (go_simp; done) | (go_simp; with_reducible rfl)) (hK w (fun D' hi' hj' => by
        have hd21 : D' 21 = D 21 := hj' 21 (by decide)
        show Chg W0 g w ∧ Box w g 48 (ccL (if D' 21 = true then { c with we := we2 } else (c)))
        rw [hd21]
        exact hSw))
    | 4, _, ho =>
      obtain rfl := Option.some.inj (ho.symm.trans (gr6_4 ps))
      have s3 : a.eval (.tmp 58) = .pointer (some ⟨g, 0, none⟩) := hs 3 58 (by rfl) rfl
      exact op_valW (gr6_4 ps) rfl (v := .pointer (some ⟨g, 8, none⟩)) (by unfold gr6O4 execOp; simp only [s3]; first | (go_simp; done) | (go_simp; with_reducible rfl)) (hK w (fun D' hi' hj' => by
        have hd21 : D' 21 = D 21 := hj' 21 (by decide)
        show Chg W0 g w ∧ Box w g 48 (ccL (if D' 21 = true then { c with we := we2 } else (c)))
        rw [hd21]
        exact hSw))
    | 5, _, ho =>
      obtain rfl := Option.some.inj (ho.symm.trans (gr6_5 ps))
      have s4 : a.eval (.tmp 59) = .pointer (some ⟨g, 8, none⟩) := hs 4 59 (by rfl) rfl
      have hn21 : D 21 = false := by
        cases h : D 21 with
        | false => rfl
        | true => exact absurd (hcl 21 _ 5 (gr6_21 ps) (by rfl) h) (by rw [hDi]; simp)
      have hb' : Box w g 48 (ccL c) := by
        have hb2 := hSw.2
        rw [hn21] at hb2
        exact hb2
      have hcl := Box.cell hb' 8 rfl
      exact op_valW (gr6_5 ps) rfl (v := .int .i64 c.we) (by unfold gr6O5 execOp; simp only [s4]; first | (go_simp; done) | (go_simp; with_reducible rfl)) (hK w (fun D' hi' hj' => by
        have hd21 : D' 21 = D 21 := hj' 21 (by decide)
        show Chg W0 g w ∧ Box w g 48 (ccL (if D' 21 = true then { c with we := we2 } else (c)))
        rw [hd21]
        exact hSw))
    | 6, _, ho =>
      obtain rfl := Option.some.inj (ho.symm.trans (gr6_6 ps))
      have u0 : a.eval (.tmp 0) = .pointer (some ⟨g, 0, none⟩) := (hel 0 (by decide)).trans e0
      exact op_valW (gr6_6 ps) rfl (v := .pointer (some ⟨g, 0, none⟩)) (by unfold gr6O6 execOp; simp only [u0]; first | (go_simp; done) | (go_simp; with_reducible rfl)) (hK w (fun D' hi' hj' => by
        have hd21 : D' 21 = D 21 := hj' 21 (by decide)
        show Chg W0 g w ∧ Box w g 48 (ccL (if D' 21 = true then { c with we := we2 } else (c)))
        rw [hd21]
        exact hSw))
    | 7, _, ho =>
      obtain rfl := Option.some.inj (ho.symm.trans (gr6_7 ps))
      have s6 : a.eval (.tmp 61) = .pointer (some ⟨g, 0, none⟩) := hs 6 61 (by rfl) rfl
      exact op_valW (gr6_7 ps) rfl (v := .pointer (some ⟨g, 0, none⟩)) (by unfold gr6O7 execOp; simp only [s6]; first | (go_simp; done) | (go_simp; with_reducible rfl)) (hK w (fun D' hi' hj' => by
        have hd21 : D' 21 = D 21 := hj' 21 (by decide)
        show Chg W0 g w ∧ Box w g 48 (ccL (if D' 21 = true then { c with we := we2 } else (c)))
        rw [hd21]
        exact hSw))
    | 8, _, ho =>
      obtain rfl := Option.some.inj (ho.symm.trans (gr6_8 ps))
      have s7 : a.eval (.tmp 62) = .pointer (some ⟨g, 0, none⟩) := hs 7 62 (by rfl) rfl
      exact op_valW (gr6_8 ps) rfl (v := .pointer (some ⟨g, 0, none⟩)) (by unfold gr6O8 execOp; simp only [s7]; first | (go_simp; done) | (go_simp; with_reducible rfl)) (hK w (fun D' hi' hj' => by
        have hd21 : D' 21 = D 21 := hj' 21 (by decide)
        show Chg W0 g w ∧ Box w g 48 (ccL (if D' 21 = true then { c with we := we2 } else (c)))
        rw [hd21]
        exact hSw))
    | 9, _, ho =>
      obtain rfl := Option.some.inj (ho.symm.trans (gr6_9 ps))
      have s8 : a.eval (.tmp 63) = .pointer (some ⟨g, 0, none⟩) := hs 8 63 (by rfl) rfl
      exact op_valW (gr6_9 ps) rfl (v := .pointer (some ⟨g, 1, none⟩)) (by unfold gr6O9 execOp; simp only [s8]; first | (go_simp; done) | (go_simp; with_reducible rfl)) (hK w (fun D' hi' hj' => by
        have hd21 : D' 21 = D 21 := hj' 21 (by decide)
        show Chg W0 g w ∧ Box w g 48 (ccL (if D' 21 = true then { c with we := we2 } else (c)))
        rw [hd21]
        exact hSw))
    | 10, _, ho =>
      obtain rfl := Option.some.inj (ho.symm.trans (gr6_10 ps))
      have s9 : a.eval (.tmp 64) = .pointer (some ⟨g, 1, none⟩) := hs 9 64 (by rfl) rfl
      have hcl : w.cell? ⟨g, 1, none⟩ = some (.int .i64 c.ms) := by
        have hb' := Box.cell hSw.2 1 rfl
        rw [hb']
        cases D 21 <;> rfl
      exact op_valW (gr6_10 ps) rfl (v := .int .i64 c.ms) (by unfold gr6O10 execOp; simp only [s9]; first | (go_simp; done) | (go_simp; with_reducible rfl)) (hK w (fun D' hi' hj' => by
        have hd21 : D' 21 = D 21 := hj' 21 (by decide)
        show Chg W0 g w ∧ Box w g 48 (ccL (if D' 21 = true then { c with we := we2 } else (c)))
        rw [hd21]
        exact hSw))
    | 11, _, ho =>
      obtain rfl := Option.some.inj (ho.symm.trans (gr6_11 ps))
      have s10 : a.eval (.tmp 65) = .int .i64 c.ms := hs 10 65 (by rfl) rfl
      have hcl : IntKind.i64.wrap (529 * c.ms) = 529 * c.ms := hw1
      exact op_valW (gr6_11 ps) rfl (v := .int .i64 (529 * c.ms)) (by unfold gr6O11 execOp; simp only [s10]; first | (go_simp; done) | (go_simp; with_reducible rfl)) (hK w (fun D' hi' hj' => by
        have hd21 : D' 21 = D 21 := hj' 21 (by decide)
        show Chg W0 g w ∧ Box w g 48 (ccL (if D' 21 = true then { c with we := we2 } else (c)))
        rw [hd21]
        exact hSw))
    | 12, _, ho =>
      obtain rfl := Option.some.inj (ho.symm.trans (gr6_12 ps))
      have u1 : a.eval (.tmp 1) = .int .i64 n := (hel 1 (by decide)).trans e1
      exact op_valW (gr6_12 ps) rfl (v := .int .i64 n) (by unfold gr6O12 execOp; simp only [u1]; first | (go_simp; done) | (go_simp; with_reducible rfl)) (hK w (fun D' hi' hj' => by
        have hd21 : D' 21 = D 21 := hj' 21 (by decide)
        show Chg W0 g w ∧ Box w g 48 (ccL (if D' 21 = true then { c with we := we2 } else (c)))
        rw [hd21]
        exact hSw))
    | 13, _, ho =>
      obtain rfl := Option.some.inj (ho.symm.trans (gr6_13 ps))
      have u8 : a.eval (.tmp 8) = .int .i64 c.cw := (hel 8 (by decide)).trans e8
      exact op_valW (gr6_13 ps) rfl (v := .int .i64 c.cw) (by unfold gr6O13 execOp; simp only [u8]; first | (go_simp; done) | (go_simp; with_reducible rfl)) (hK w (fun D' hi' hj' => by
        have hd21 : D' 21 = D 21 := hj' 21 (by decide)
        show Chg W0 g w ∧ Box w g 48 (ccL (if D' 21 = true then { c with we := we2 } else (c)))
        rw [hd21]
        exact hSw))
    | 14, _, ho =>
      obtain rfl := Option.some.inj (ho.symm.trans (gr6_14 ps))
      have s13 : a.eval (.tmp 68) = .int .i64 c.cw := hs 13 68 (by rfl) rfl
      have hcl : IntKind.i64.wrap (1000 * c.cw) = 1000 * c.cw := hw2
      exact op_valW (gr6_14 ps) rfl (v := .int .i64 (1000 * c.cw)) (by unfold gr6O14 execOp; simp only [s13]; first | (go_simp; done) | (go_simp; with_reducible rfl)) (hK w (fun D' hi' hj' => by
        have hd21 : D' 21 = D 21 := hj' 21 (by decide)
        show Chg W0 g w ∧ Box w g 48 (ccL (if D' 21 = true then { c with we := we2 } else (c)))
        rw [hd21]
        exact hSw))
    | 15, _, ho =>
      obtain rfl := Option.some.inj (ho.symm.trans (gr6_15 ps))
      have s11 : a.eval (.tmp 66) = .int .i64 (529 * c.ms) := hs 11 66 (by rfl) rfl
      have s12 : a.eval (.tmp 67) = .int .i64 n := hs 12 67 (by rfl) rfl
      have s14 : a.eval (.tmp 69) = .int .i64 (1000 * c.cw) := hs 14 69 (by rfl) rfl
      exact op_enterW (gr6_15 ps) rfl (f := 41) (args := #[.int .i64 (529 * c.ms), .int .i64 n, .int .i64 (1000 * c.cw)]) (by rw [run_call rfl enter41]; simp only [List.map_toArray, List.map_cons, List.map_nil, s11, s12, s14]; try rfl) ((c1 w).mono (fun e w' hh => ⟨_, hh.1, hK w' (fun D' hi' hj' => by
        have hd21 : D' 21 = D 21 := hj' 21 (by decide)
        show Chg W0 g w' ∧ Box w' g 48 (ccL (if D' 21 = true then { c with we := we2 } else (c)))
        rw [hd21]
        exact (by obtain ⟨nn, hq⟩ := hh.2; rw [hq]; exact ⟨hSw.1.drewN nn, hSw.2.drewN nn⟩))⟩))
    | 16, _, ho =>
      obtain rfl := Option.some.inj (ho.symm.trans (gr6_16 ps))
      have s5 : a.eval (.tmp 60) = .int .i64 c.we := hs 5 60 (by rfl) rfl
      have s15 : a.eval (.tmp 70) = .int .i64 fr := hs 15 70 (by rfl) rfl
      have hcl : IntKind.i64.wrap (c.we + fr) = sm := hw3
      exact op_valW (gr6_16 ps) rfl (v := .int .i64 sm) (by unfold gr6O16 execOp; simp only [s5, s15]; first | (go_simp; done) | (go_simp; with_reducible rfl)) (hK w (fun D' hi' hj' => by
        have hd21 : D' 21 = D 21 := hj' 21 (by decide)
        show Chg W0 g w ∧ Box w g 48 (ccL (if D' 21 = true then { c with we := we2 } else (c)))
        rw [hd21]
        exact hSw))
    | 17, _, ho =>
      obtain rfl := Option.some.inj (ho.symm.trans (gr6_17 ps))
      have s16 : a.eval (.tmp 71) = .int .i64 sm := hs 16 71 (by rfl) rfl
      have t71 : a.tmps[71]?.getD undef = .int .i64 sm := by simpa [Act.eval] using s16
      have hcl : (if 1073741824 < sm then 1073741824 else sm) = we2 := hw4
      exact op_valW (gr6_17 ps) rfl (v := .int .i64 we2) (by unfold gr6O17 execOp; skip; first | (go_simp; done) | (go_simp; with_reducible rfl)) (hK w (fun D' hi' hj' => by
        have hd21 : D' 21 = D 21 := hj' 21 (by decide)
        show Chg W0 g w ∧ Box w g 48 (ccL (if D' 21 = true then { c with we := we2 } else (c)))
        rw [hd21]
        exact hSw))
    | 18, _, ho =>
      obtain rfl := Option.some.inj (ho.symm.trans (gr6_18 ps))
      have s0 : a.eval (.tmp 55) = .pointer (some ⟨g, 0, none⟩) := hs 0 55 (by rfl) rfl
      exact op_valW (gr6_18 ps) rfl (v := .pointer (some ⟨g, 0, none⟩)) (by unfold gr6O18 execOp; simp only [s0]; first | (go_simp; done) | (go_simp; with_reducible rfl)) (hK w (fun D' hi' hj' => by
        have hd21 : D' 21 = D 21 := hj' 21 (by decide)
        show Chg W0 g w ∧ Box w g 48 (ccL (if D' 21 = true then { c with we := we2 } else (c)))
        rw [hd21]
        exact hSw))
    | 19, _, ho =>
      obtain rfl := Option.some.inj (ho.symm.trans (gr6_19 ps))
      have s18 : a.eval (.tmp 73) = .pointer (some ⟨g, 0, none⟩) := hs 18 73 (by rfl) rfl
      exact op_valW (gr6_19 ps) rfl (v := .pointer (some ⟨g, 0, none⟩)) (by unfold gr6O19 execOp; simp only [s18]; first | (go_simp; done) | (go_simp; with_reducible rfl)) (hK w (fun D' hi' hj' => by
        have hd21 : D' 21 = D 21 := hj' 21 (by decide)
        show Chg W0 g w ∧ Box w g 48 (ccL (if D' 21 = true then { c with we := we2 } else (c)))
        rw [hd21]
        exact hSw))
    | 20, _, ho =>
      obtain rfl := Option.some.inj (ho.symm.trans (gr6_20 ps))
      have s19 : a.eval (.tmp 74) = .pointer (some ⟨g, 0, none⟩) := hs 19 74 (by rfl) rfl
      exact op_valW (gr6_20 ps) rfl (v := .pointer (some ⟨g, 8, none⟩)) (by unfold gr6O20 execOp; simp only [s19]; first | (go_simp; done) | (go_simp; with_reducible rfl)) (hK w (fun D' hi' hj' => by
        have hd21 : D' 21 = D 21 := hj' 21 (by decide)
        show Chg W0 g w ∧ Box w g 48 (ccL (if D' 21 = true then { c with we := we2 } else (c)))
        rw [hd21]
        exact hSw))
    | 21, _, ho =>
      obtain rfl := Option.some.inj (ho.symm.trans (gr6_21 ps))
      have s20 : a.eval (.tmp 75) = .pointer (some ⟨g, 8, none⟩) := hs 20 75 (by rfl) rfl
      have s17 : a.eval (.tmp 72) = .int .i64 we2 := hs 17 72 (by rfl) rfl
      have hbx : Box w g 48 (ccL c) := by
        have hb' := hSw.2
        rw [hDi] at hb'
        exact hb'
      have hcl := Box.cell hbx 8 rfl
      have hfz := Box.frozen hbx 8
      exact op_stoW (gr6_21 ps) rfl rfl (w' := (w.setCell ⟨g, 8, none⟩ (.int .i64 we2))) (by unfold gr6O21 execOp; simp only [s20, s17]; first | (go_simp; done) | (go_simp; with_reducible rfl)) (hK _ (fun D' hi' hj' => by
        have hd21 : D' 21 = true := hi'
        show Chg W0 g (w.setCell ⟨g, 8, none⟩ (.int .i64 we2)) ∧ Box (w.setCell ⟨g, 8, none⟩ (.int .i64 we2)) g 48 (ccL (if D' 21 = true then { c with we := we2 } else (c)))
        rw [hd21]
        exact ⟨hSw.1.set _ _, hbx.set 8 _⟩))
    | iq + 22, hin, _ => exact absurd hin (by omega)
end Go.Proofs.Ytikcjdoeoghoeaa
