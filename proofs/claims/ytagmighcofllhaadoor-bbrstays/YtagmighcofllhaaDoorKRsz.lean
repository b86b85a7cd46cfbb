/- The contract of resize. -/
import Derived.Test.YtagmighcofllhaaDoorGD
import Derived.Test.YtagmighcofllhaaDoorGS
namespace Go.Proofs.YtagmighcofllhaaDoor
open Go.ChangeShapes Go.WideShapes Go.ChangeAt Go.RowKit
set_option linter.unusedVariables false
set_option linter.unusedSimpArgs false

open Fil
theorem enter62 (args : Array Value) (w : World) : (callFunc 62 args).run Tryd.prog w = .ok (.enter 62 args) w := by kernel_rfl
def rz9O0 (ps : String) : Oper := { dst := some 79, op := .move (.tmp 0), type := 70, pos := ps, after := #[], guard := none }
def rz9O1 (ps : String) : Oper := { dst := some 80, op := .move (.tmp 0), type := 70, pos := ps, after := #[], guard := none }
def rz9O2 (ps : String) : Oper := { dst := some 81, op := .nilCheck (.tmp 80), type := 0, pos := ps, after := #[{ on := 1, ground := .data }], guard := none }
def rz9O3 (ps : String) : Oper := { dst := some 82, op := .fieldAddr 48 (.tmp 81) 0, type := 0, pos := ps, after := #[{ on := 2, ground := .data }], guard := none }
def rz9O4 (ps : String) : Oper := { dst := some 83, op := .fieldAddr 26 (.tmp 82) 2, type := 0, pos := ps, after := #[{ on := 3, ground := .data }], guard := none }
def rz9O5 (ps : String) : Oper := { dst := some 84, op := .load 3 (.tmp 83), type := 3, pos := ps, after := #[{ on := 4, ground := .data }], guard := none }
def rz9O6 (ps : String) : Oper := { dst := some 85, op := .move (.tmp 0), type := 70, pos := ps, after := #[], guard := none }
def rz9O7 (ps : String) : Oper := { dst := some 86, op := .nilCheck (.tmp 85), type := 0, pos := ps, after := #[{ on := 6, ground := .data }], guard := none }
def rz9O8 (ps : String) : Oper := { dst := some 87, op := .fieldAddr 48 (.tmp 86) 0, type := 0, pos := ps, after := #[{ on := 7, ground := .data }], guard := none }
def rz9O9 (ps : String) : Oper := { dst := some 88, op := .fieldAddr 26 (.tmp 87) 1, type := 0, pos := ps, after := #[{ on := 8, ground := .data }], guard := none }
def rz9O10 (ps : String) : Oper := { dst := some 89, op := .load 3 (.tmp 88), type := 3, pos := ps, after := #[{ on := 9, ground := .data }], guard := none }
def rz9O11 (ps : String) : Oper := { dst := some 90, op := .call { callee := .value (.func 62), args := #[.tmp 84, .tmp 89, .const (.int .i64 1073741824)], argTypes := #[3, 3, 3] }, type := 3, pos := ps, after := #[{ on := 5, ground := .data }, { on := 10, ground := .data }], guard := none }
def rz9O12 (ps : String) : Oper := { dst := some 91, op := .nilCheck (.tmp 79), type := 0, pos := ps, after := #[{ on := 0, ground := .data }, { on := 0, ground := .phase }, { on := 1, ground := .phase }, { on := 2, ground := .phase }, { on := 3, ground := .phase }, { on := 4, ground := .phase }, { on := 5, ground := .phase }, { on := 6, ground := .phase }, { on := 7, ground := .phase }, { on := 8, ground := .phase }, { on := 9, ground := .phase }, { on := 10, ground := .phase }, { on := 11, ground := .phase }], guard := none }
def rz9O13 (ps : String) : Oper := { dst := some 92, op := .fieldAddr 48 (.tmp 91) 0, type := 0, pos := ps, after := #[{ on := 12, ground := .data }, { on := 0, ground := .phase }, { on := 1, ground := .phase }, { on := 2, ground := .phase }, { on := 3, ground := .phase }, { on := 4, ground := .phase }, { on := 5, ground := .phase }, { on := 6, ground := .phase }, { on := 7, ground := .phase }, { on := 8, ground := .phase }, { on := 9, ground := .phase }, { on := 10, ground := .phase }, { on := 11, ground := .phase }], guard := none }
def rz9O14 (ps : String) : Oper := { dst := some 93, op := .fieldAddr 26 (.tmp 92) 2, type := 0, pos := ps, after := #[{ on := 13, ground := .data }, { on := 0, ground := .phase }, { on := 1, ground := .phase }, { on := 2, ground := .phase }, { on := 3, ground := .phase }, { on := 4, ground := .phase }, { on := 5, ground := .phase }, { on := 6, ground := .phase }, { on := 7, ground := .phase }, { on := 8, ground := .phase }, { on := 9, ground := .phase }, { on := 10, ground := .phase }, { on := 11, ground := .phase }], guard := none }
def rz9O15 (ps : String) : Oper := { dst := none, op := .store 3 (.tmp 93) (.tmp 90), type := 0, pos := ps, after := #[{ on := 14, ground := .data }, { on := 11, ground := .data }, { on := 11, ground := .chain }, { on := 0, ground := .phase }, { on := 1, ground := .phase }, { on := 2, ground := .phase }, { on := 3, ground := .phase }, { on := 4, ground := .phase }, { on := 5, ground := .phase }, { on := 6, ground := .phase }, { on := 7, ground := .phase }, { on := 8, ground := .phase }, { on := 9, ground := .phase }, { on := 10, ground := .phase }, { on := 11, ground := .phase }], guard := none }
def rz9 (ps : String) : Array Oper := #[rz9O0 ps, rz9O1 ps, rz9O2 ps, rz9O3 ps, rz9O4 ps, rz9O5 ps, rz9O6 ps, rz9O7 ps, rz9O8 ps, rz9O9 ps, rz9O10 ps, rz9O11 ps, rz9O12 ps, rz9O13 ps, rz9O14 ps, rz9O15 ps]
theorem rz9_0 (ps : String) : (rz9 ps)[0]? = some (rz9O0 ps) := rfl
theorem rz9_1 (ps : String) : (rz9 ps)[1]? = some (rz9O1 ps) := rfl
theorem rz9_2 (ps : String) : (rz9 ps)[2]? = some (rz9O2 ps) := rfl
theorem rz9_3 (ps : String) : (rz9 ps)[3]? = some (rz9O3 ps) := rfl
theorem rz9_4 (ps : String) : (rz9 ps)[4]? = some (rz9O4 ps) := rfl
theorem rz9_5 (ps : String) : (rz9 ps)[5]? = some (rz9O5 ps) := rfl
theorem rz9_6 (ps : String) : (rz9 ps)[6]? = some (rz9O6 ps) := rfl
theorem rz9_7 (ps : String) : (rz9 ps)[7]? = some (rz9O7 ps) := rfl
theorem rz9_8 (ps : String) : (rz9 ps)[8]? = some (rz9O8 ps) := rfl
theorem rz9_9 (ps : String) : (rz9 ps)[9]? = some (rz9O9 ps) := rfl
theorem rz9_10 (ps : String) : (rz9 ps)[10]? = some (rz9O10 ps) := rfl
theorem rz9_11 (ps : String) : (rz9 ps)[11]? = some (rz9O11 ps) := rfl
theorem rz9_12 (ps : String) : (rz9 ps)[12]? = some (rz9O12 ps) := rfl
theorem rz9_13 (ps : String) : (rz9 ps)[13]? = some (rz9O13 ps) := rfl
theorem rz9_14 (ps : String) : (rz9 ps)[14]? = some (rz9O14 ps) := rfl
theorem rz9_15 (ps : String) : (rz9 ps)[15]? = some (rz9O15 ps) := rfl
def rz9D : Nat → Option Tmp
  | 0 => some 79
  | 1 => some 80
  | 2 => some 81
  | 3 => some 82
  | 4 => some 83
  | 5 => some 84
  | 6 => some 85
  | 7 => some 86
  | 8 => some 87
  | 9 => some 88
  | 10 => some 89
  | 11 => some 90
  | 12 => some 91
  | 13 => some 92
  | 14 => some 93
  | 15 => none
  | _ => none
def rz9T (c : Cc) (g : Nat) (x : Int) : Nat → Value
  | 0 => .pointer (some ⟨g, 0, none⟩)
  | 1 => .pointer (some ⟨g, 0, none⟩)
  | 2 => .pointer (some ⟨g, 0, none⟩)
  | 3 => .pointer (some ⟨g, 0, none⟩)
  | 4 => .pointer (some ⟨g, 2, none⟩)
  | 5 => .int .i64 c.cw
  | 6 => .pointer (some ⟨g, 0, none⟩)
  | 7 => .pointer (some ⟨g, 0, none⟩)
  | 8 => .pointer (some ⟨g, 0, none⟩)
  | 9 => .pointer (some ⟨g, 1, none⟩)
  | 10 => .int .i64 c.ms
  | 11 => .int .i64 x
  | 12 => .pointer (some ⟨g, 0, none⟩)
  | 13 => .pointer (some ⟨g, 0, none⟩)
  | 14 => .pointer (some ⟨g, 2, none⟩)
  | 15 => undef
  | _ => undef
set_option maxRecDepth 100000 in
set_option maxHeartbeats 4000000 in
theorem rz9_reg {ps : String} {Q : Exit → Act → World → Prop} {a0 : Act} {W0 : World} (sz : a0.tmps.size = 94) (c : Cc) (g : Nat) (x : Int)
    (e0 : a0.eval (.tmp 0) = .pointer (some ⟨g, 0, none⟩))
    (hb : Box W0 g 48 (ccL c)) (c3 : ∀ W, Calls Tryd.prog 62 #[.int .i64 c.cw, .int .i64 c.ms, .int .i64 1073741824] W fun e w' => e = .returned (.int .i64 x) ∧ w' = W)
    (hfin : ∀ (T : Nat → Value) w, Chg W0 g w ∧ Box w g 48 (ccL { c with cw := x }) → Q .normal (((((((((((((((a0.put (some 79) (T 0)).put (some 80) (T 1)).put (some 81) (T 2)).put (some 82) (T 3)).put (some 83) (T 4)).put (some 84) (T 5)).put (some 85) (T 6)).put (some 86) (T 7)).put (some 87) (T 8)).put (some 88) (T 9)).put (some 89) (T 10)).put (some 90) (T 11)).put (some 91) (T 12)).put (some 92) (T 13)).put (some 93) (T 14)) w) :
    (Code.region 9 (rz9 ps) true).wp Tryd.prog Q a0 W0 := by
  refine wp_region_dets (by kernel_rfl) 16 rfl rz9D ?_ (by decide) (rz9T c g x) (fun D w => Chg W0 g w ∧ Box w g 48 (ccL { c with cw := (if D 15 = true then x else c.cw) })) (fun D hD => by
    show Chg W0 g W0.drew ∧ Box W0.drew g 48 (ccL { c with cw := (if D 15 = true then x else c.cw) })
    rw [hD 15]
    exact ⟨(Chg.refl W0 g).drew, hb.drew⟩) ?_ (by rfl) (fun w D hD hSw => by
    have hSw' : Chg W0 g w ∧ Box w g 48 (ccL { c with cw := (if D 15 = true then x else c.cw) }) := hSw
    rw [hD 15 (by decide)] at hSw'
    exact hfin (rz9T c g x) w  hSw')
  · intro jq t hj ht
    have : ∀ j, j < 16 → (rz9D j).all (· < 94) = true := by decide
    have := this jq hj
    rw [ht] at this
    rw [sz]
    simpa using this
  · intro iq o ho D a w hSw hDi hcl hs hel K hK
    have hin : iq < 16 := (Array.getElem?_eq_some_iff.1 ho).1
    match iq, hin, ho with
    | 0, _, ho =>
      obtain rfl := Option.some.inj (ho.symm.trans (rz9_0 ps))
      have u0 : a.eval (.tmp 0) = .pointer (some ⟨g, 0, none⟩) := (hel 0 (by decide)).trans e0
      exact op_valW (rz9_0 ps) rfl (v := .pointer (some ⟨g, 0, none⟩)) (by unfold rz9O0 execOp; simp only [u0]; first | (go_simp; done) | (go_simp; with_reducible rfl)) (hK w (fun D' hi' hj' => by
        have hd15 : D' 15 = D 15 := hj' 15 (by decide)
        show Chg W0 g w ∧ Box w g 48 (ccL { c with cw := (if D' 15 = true then x else c.cw) })
        rw [hd15]
        exact hSw))
    | 1, _, ho =>
      obtain rfl := Option.some.inj (ho.symm.trans (rz9_1 ps))
      have u0 : a.eval (.tmp 0) = .pointer (some ⟨g, 0, none⟩) := (hel 0 (by decide)).trans e0
      exact op_valW (rz9_1 ps) rfl (v := .pointer (some ⟨g, 0, none⟩)) (by unfold rz9O1 execOp; simp only [u0]; first | (go_simp; done) | (go_simp; with_reducible rfl)) (hK w (fun D' hi' hj' => by
        have hd15 : D' 15 = D 15 := hj' 15 (by decide)
        show Chg W0 g w ∧ Box w g 48 (ccL { c with cw := (if D' 15 = true then x else c.cw) })
        rw [hd15]
        exact hSw))
    | 2, _, ho =>
      obtain rfl := Option.some.inj (ho.symm.trans (rz9_2 ps))
      have s1 : a.eval (.tmp 80) = .pointer (some ⟨g, 0, none⟩) := hs 1 80 (by rfl) rfl
      exact op_valW (rz9_2 ps) rfl (v := .pointer (some ⟨g, 0, none⟩)) (by unfold rz9O2 execOp; simp only [s1]; first | (go_simp; done) | (go_simp; with_reducible rfl)) (hK w (fun D' hi' hj' => by
        have hd15 : D' 15 = D 15 := hj' 15 (by decide)
        show Chg W0 g w ∧ Box w g 48 (ccL { c with cw := (if D' 15 = true then x else c.cw) })
        rw [hd15]
        exact hSw))
    | 3, _, ho =>
      obtain rfl := Option.some.inj (ho.symm.trans (rz9_3 ps))
      have s2 : a.eval (.tmp 81) = .pointer (some ⟨g, 0, none⟩) := hs 2 81 (by rfl) rfl
      exact op_valW (rz9_3 ps) rfl (v := .pointer (some ⟨g, 0, none⟩)) (by unfold rz9O3 execOp; simp only [s2]; first | (go_simp; done) | (go_simp; with_reducible rfl)) (hK w (fun D' hi' hj' => by
        have hd15 : D' 15 = D 15 := hj' 15 (by decide)
        show Chg W0 g w ∧ Box w g 48 (ccL { c with cw := (if D' 15 = true then x else c.cw) })
        rw [hd15]
        exact hSw))
    | 4, _, ho =>
      obtain rfl := Option.some.inj (ho.symm.trans (rz9_4 ps))
      have s3 : a.eval (.tmp 82) = .pointer (some ⟨g, 0, none⟩) := hs 3 82 (by rfl) rfl
      exact op_valW (rz9_4 ps) rfl (v := .pointer (some ⟨g, 2, none⟩)) (by unfold rz9O4 execOp; simp only [s3]; first | (go_simp; done) | (go_simp; with_reducible rfl)) (hK w (fun D' hi' hj' => by
        have hd15 : D' 15 = D 15 := hj' 15 (by decide)
        show Chg W0 g w ∧ Box w g 48 (ccL { c with cw := (if D' 15 = true then x else c.cw) })
        rw [hd15]
        exact hSw))
    | 5, _, ho =>
      obtain rfl := Option.some.inj (ho.symm.trans (rz9_5 ps))
      have s4 : a.eval (.tmp 83) = .pointer (some ⟨g, 2, none⟩) := hs 4 83 (by rfl) rfl
      have hn15 : D 15 = false := by
        cases h : D 15 with
        | false => rfl
        | true => exact absurd (hcl 15 _ 5 (rz9_15 ps) (by rfl) h) (by rw [hDi]; simp)
      have hb2 := hSw.2
      have hcl0 := Box.cell hb2 2 rfl
      have hcl : w.cell? ⟨g, 2, none⟩ = some (.int .i64 (c.cw)) := by
        rw [hcl0, hn15]
        rfl
      exact op_valW (rz9_5 ps) rfl (v := .int .i64 c.cw) (by unfold rz9O5 execOp; simp only [s4]; first | (go_simp; done) | (go_simp; with_reducible rfl)) (hK w (fun D' hi' hj' => by
        have hd15 : D' 15 = D 15 := hj' 15 (by decide)
        show Chg W0 g w ∧ Box w g 48 (ccL { c with cw := (if D' 15 = true then x else c.cw) })
        rw [hd15]
        exact hSw))
    | 6, _, ho =>
      obtain rfl := Option.some.inj (ho.symm.trans (rz9_6 ps))
      have u0 : a.eval (.tmp 0) = .pointer (some ⟨g, 0, none⟩) := (hel 0 (by decide)).trans e0
      exact op_valW (rz9_6 ps) rfl (v := .pointer (some ⟨g, 0, none⟩)) (by unfold rz9O6 execOp; simp only [u0]; first | (go_simp; done) | (go_simp; with_reducible rfl)) (hK w (fun D' hi' hj' => by
        have hd15 : D' 15 = D 15 := hj' 15 (by decide)
        show Chg W0 g w ∧ Box w g 48 (ccL { c with cw := (if D' 15 = true then x else c.cw) })
        rw [hd15]
        exact hSw))
    | 7, _, ho =>
      obtain rfl := Option.some.inj (ho.symm.trans (rz9_7 ps))
      have s6 : a.eval (.tmp 85) = .pointer (some ⟨g, 0, none⟩) := hs 6 85 (by rfl) rfl
      exact op_valW (rz9_7 ps) rfl (v := .pointer (some ⟨g, 0, none⟩)) (by unfold rz9O7 execOp; simp only [s6]; first | (go_simp; done) | (go_simp; with_reducible rfl)) (hK w (fun D' hi' hj' => by
        have hd15 : D' 15 = D 15 := hj' 15 (by decide)
        show Chg W0 g w ∧ Box w g 48 (ccL { c with cw := (if D' 15 = true then x else c.cw) })
        rw [hd15]
        exact hSw))
    | 8, _, ho =>
      obtain rfl := Option.some.inj (ho.symm.trans (rz9_8 ps))
      have s7 : a.eval (.tmp 86) = .pointer (some ⟨g, 0, none⟩) := hs 7 86 (by rfl) rfl
      exact op_valW (rz9_8 ps) rfl (v := .pointer (some ⟨g, 0, none⟩)) (by unfold rz9O8 execOp; simp only [s7]; first | (go_simp; done) | (go_simp; with_reducible rfl)) (hK w (fun D' hi' hj' => by
        have hd15 : D' 15 = D 15 := hj' 15 (by decide)
        show Chg W0 g w ∧ Box w g 48 (ccL { c with cw := (if D' 15 = true then x else c.cw) })
        rw [hd15]
        exact hSw))
    | 9, _, ho =>
      obtain rfl := Option.some.inj (ho.symm.trans (rz9_9 ps))
      have s8 : a.eval (.tmp 87) = .pointer (some ⟨g, 0, none⟩) := hs 8 87 (by rfl) rfl
      exact op_valW (rz9_9 ps) rfl (v := .pointer (some ⟨g, 1, none⟩)) (by unfold rz9O9 execOp; simp only [s8]; first | (go_simp; done) | (go_simp; with_reducible rfl)) (hK w (fun D' hi' hj' => by
        have hd15 : D' 15 = D 15 := hj' 15 (by decide)
        show Chg W0 g w ∧ Box w g 48 (ccL { c with cw := (if D' 15 = true then x else c.cw) })
        rw [hd15]
        exact hSw))
    | 10, _, ho =>
      obtain rfl := Option.some.inj (ho.symm.trans (rz9_10 ps))
      have s9 : a.eval (.tmp 88) = .pointer (some ⟨g, 1, none⟩) := hs 9 88 (by rfl) rfl
      have hcl : w.cell? ⟨g, 1, none⟩ = some (.int .i64 (c.ms)) := Box.cell hSw.2 1 rfl
      exact op_valW (rz9_10 ps) rfl (v := .int .i64 c.ms) (by unfold rz9O10 execOp; simp only [s9]; first | (go_simp; done) | (go_simp; with_reducible rfl)) (hK w (fun D' hi' hj' => by
        have hd15 : D' 15 = D 15 := hj' 15 (by decide)
        show Chg W0 g w ∧ Box w g 48 (ccL { c with cw := (if D' 15 = true then x else c.cw) })
        rw [hd15]
        exact hSw))
    | 11, _, ho =>
      obtain rfl := Option.some.inj (ho.symm.trans (rz9_11 ps))
      have s5 : a.eval (.tmp 84) = .int .i64 c.cw := hs 5 84 (by rfl) rfl
      have s10 : a.eval (.tmp 89) = .int .i64 c.ms := hs 10 89 (by rfl) rfl
      exact op_enterW (rz9_11 ps) rfl (f := 62) (args := #[.int .i64 c.cw, .int .i64 c.ms, .int .i64 1073741824]) (by rw [run_call rfl enter62]; simp only [List.map_toArray, List.map_cons, List.map_nil, s5, s10]; try rfl) ((c3 w).mono (fun e w' hh => ⟨_, hh.1, hK w' (fun D' hi' hj' => by
        have hd15 : D' 15 = D 15 := hj' 15 (by decide)
        show Chg W0 g w' ∧ Box w' g 48 (ccL { c with cw := (if D' 15 = true then x else c.cw) })
        rw [hd15]
        exact (by rw [hh.2]; exact hSw))⟩))
    | 12, _, ho =>
      obtain rfl := Option.some.inj (ho.symm.trans (rz9_12 ps))
      have s0 : a.eval (.tmp 79) = .pointer (some ⟨g, 0, none⟩) := hs 0 79 (by rfl) rfl
      exact op_valW (rz9_12 ps) rfl (v := .pointer (some ⟨g, 0, none⟩)) (by unfold rz9O12 execOp; simp only [s0]; first | (go_simp; done) | (go_simp; with_reducible rfl)) (hK w (fun D' hi' hj' => by
        have hd15 : D' 15 = D 15 := hj' 15 (by decide)
        show Chg W0 g w ∧ Box w g 48 (ccL { c with cw := (if D' 15 = true then x else c.cw) })
        rw [hd15]
        exact hSw))
    | 13, _, ho =>
      obtain rfl := Option.some.inj (ho.symm.trans (rz9_13 ps))
      have s12 : a.eval (.tmp 91) = .pointer (some ⟨g, 0, none⟩) := hs 12 91 (by rfl) rfl
      exact op_valW (rz9_13 ps) rfl (v := .pointer (some ⟨g, 0, none⟩)) (by unfold rz9O13 execOp; simp only [s12]; first | (go_simp; done) | (go_simp; with_reducible rfl)) (hK w (fun D' hi' hj' => by
        have hd15 : D' 15 = D 15 := hj' 15 (by decide)
        show Chg W0 g w ∧ Box w g 48 (ccL { c with cw := (if D' 15 = true then x else c.cw) })
        rw [hd15]
        exact hSw))
    | 14, _, ho =>
      obtain rfl := Option.some.inj (ho.symm.trans (rz9_14 ps))
      have s13 : a.eval (.tmp 92) = .pointer (some ⟨g, 0, none⟩) := hs 13 92 (by rfl) rfl
      exact op_valW (rz9_14 ps) rfl (v := .pointer (some ⟨g, 2, none⟩)) (by unfold rz9O14 execOp; simp only [s13]; first | (go_simp; done) | (go_simp; with_reducible rfl)) (hK w (fun D' hi' hj' => by
        have hd15 : D' 15 = D 15 := hj' 15 (by decide)
        show Chg W0 g w ∧ Box w g 48 (ccL { c with cw := (if D' 15 = true then x else c.cw) })
        rw [hd15]
        exact hSw))
    | 15, _, ho =>
      obtain rfl := Option.some.inj (ho.symm.trans (rz9_15 ps))
      have s14 : a.eval (.tmp 93) = .pointer (some ⟨g, 2, none⟩) := hs 14 93 (by rfl) rfl
      have s11 : a.eval (.tmp 90) = .int .i64 x := hs 11 90 (by rfl) rfl
      have hcx := Box.cell hSw.2 2 rfl
      have hfz := Box.frozen hSw.2 2
      exact op_stoW (rz9_15 ps) rfl rfl (w' := (w.setCell ⟨g, 2, none⟩ (.int .i64 (x)))) (by unfold rz9O15 execOp; simp only [s14, s11]; first | (go_simp; done) | (go_simp; with_reducible rfl)) (hK _ (fun D' hi' hj' => by
        have hd15 : D' 15 = true := hi'
        show Chg W0 g (w.setCell ⟨g, 2, none⟩ (.int .i64 (x))) ∧ Box (w.setCell ⟨g, 2, none⟩ (.int .i64 (x))) g 48 (ccL { c with cw := (if D' 15 = true then x else c.cw) })
        rw [hd15]
        exact ⟨hSw.1.set _ _, box_to (hSw.2.set 2 _) rfl⟩))
    | iq + 16, hin, _ => exact absurd hin (by omega)

set_option maxRecDepth 100000 in
set_option maxHeartbeats 4000000 in
theorem rsz_a (c : Cc) (g : Nat) (w : World) (ak P tg z x : Int) (m4 : IntKind.i64.wrap (4 * c.ms) = 4 * c.ms) (p2 : IntKind.i64.wrap (2 * P) = 2 * P) (hmx : (if 4 * c.ms < 2 * P then 2 * P else 4 * c.ms) = tg) (w1 : IntKind.i64.wrap (c.cw + ak) = c.cw + ak) (c1 : ∀ W, Chg w g W → Calls Tryd.prog 52 #[ccv c] W fun e w' => e = .returned (.int .i64 P) ∧ Below W.heap.size W w') (c3 : ∀ W, Calls Tryd.prog 62 #[.int .i64 z, .int .i64 c.ms, .int .i64 1073741824] W fun e w' => e = .returned (.int .i64 x) ∧ w' = W) (d4 : (c.md == 4) = true) (hz : (if 4 * c.ms < c.cw then 4 * c.ms else c.cw) = z) (hb : Box w g 48 (ccL c)) : Calls Tryd.prog 32 #[.pointer (some ⟨g, 0, none⟩), .int .i64 ak] w fun e w' => e = .returned (.tuple #[]) ∧ Chg w g w' ∧ Box w' g 48 (ccL { c with cw := x }) := by
  have HF : Hid (Chg w g w ∧ Box w g 48 (ccL c)) := ⟨Chg.refl w g, hb⟩
  clear hb
  go_enter Tryd.func32, Tryd.ntmps32
  have k1 := Box.cell HF.out.2 1 rfl
  have fz := fun i => Box.frozen HF.out.2 i
  have hlt := HF.out.2.lt
  have H3 : Hid (∀ W, Calls Tryd.prog 62 #[.int .i64 z, .int .i64 c.ms, .int .i64 1073741824] W fun e w' => e = .returned (.int .i64 x) ∧ w' = W) := c3
  clear c3
  go_wp2_with (first | (refine wpC_load rfl isC48 rfl rfl HF.out.2 ?_))
  refine (c1 _ HF.out.1).mono ?_
  clear k1 fz hlt
  rintro e w2 ⟨rfl, hB⟩
  have HG : Hid (Chg w g w2 ∧ Box w2 g 48 (ccL c)) := ⟨HF.out.1.later HF.out.2.lt hB, HF.out.2.later hB⟩
  clear HF hB
  have HF := HG
  clear HG
  have k1 := Box.cell HF.out.2 1 rfl
  have k2 := Box.cell HF.out.2 2 rfl
  have k10 := Box.cell HF.out.2 10 rfl
  have k17 := Box.cell HF.out.2 17 rfl
  have fz := fun i => Box.frozen HF.out.2 i
  have hlt := HF.out.2.lt
  clear c1
  go_upto_region 9 with fail
  refine rz9_reg (by rfl) { c with cw := z } g x rfl (box_to (HF.out.2.set 2 _) rfl) H3.out ?_
  intro T w9  hS
  simp only [Act.put, List.setIfInBounds_toArray, List.set_cons_zero, List.set_cons_succ]
  have HG : Hid (Chg w g w9 ∧ Box w9 g 48 (ccL { c with cw := x })) := ⟨(HF.out.1.set _ _).trans hS.1, hS.2⟩
  clear hS HF 
  have HF := HG
  clear HG
  clear H3
  go_wp2_with fail
  go_end0
  refine ⟨rfl, ?hs, ?hx⟩
  case hs => repeat (first | with_reducible exact HF.out.1 | with_reducible refine Chg.set ?_ _ _ | with_reducible refine Chg.drewN ?_ _ | with_reducible refine Chg.drew ?_)
  case hx =>
    apply box_to
    · repeat (first | with_reducible exact HF.out.2 | with_reducible apply Box.set | with_reducible apply Box.drewN | with_reducible apply Box.drew)
    · rfl

set_option maxRecDepth 100000 in
set_option maxHeartbeats 4000000 in
theorem rsz_b (c : Cc) (g : Nat) (w : World) (ak P tg z x : Int) (m4 : IntKind.i64.wrap (4 * c.ms) = 4 * c.ms) (p2 : IntKind.i64.wrap (2 * P) = 2 * P) (hmx : (if 4 * c.ms < 2 * P then 2 * P else 4 * c.ms) = tg) (w1 : IntKind.i64.wrap (c.cw + ak) = c.cw + ak) (c1 : ∀ W, Chg w g W → Calls Tryd.prog 52 #[ccv c] W fun e w' => e = .returned (.int .i64 P) ∧ Below W.heap.size W w') (c3 : ∀ W, Calls Tryd.prog 62 #[.int .i64 z, .int .i64 c.ms, .int .i64 1073741824] W fun e w' => e = .returned (.int .i64 x) ∧ w' = W) (d4 : (c.md == 4) = false) (d3 : (c.fc == 3) = true) (hz : (if tg < c.cw + ak then tg else c.cw + ak) = z) (hb : Box w g 48 (ccL c)) : Calls Tryd.prog 32 #[.pointer (some ⟨g, 0, none⟩), .int .i64 ak] w fun e w' => e = .returned (.tuple #[]) ∧ Chg w g w' ∧ Box w' g 48 (ccL { c with cw := x }) := by
  have HF : Hid (Chg w g w ∧ Box w g 48 (ccL c)) := ⟨Chg.refl w g, hb⟩
  clear hb
  go_enter Tryd.func32, Tryd.ntmps32
  have k1 := Box.cell HF.out.2 1 rfl
  have fz := fun i => Box.frozen HF.out.2 i
  have hlt := HF.out.2.lt
  have H3 : Hid (∀ W, Calls Tryd.prog 62 #[.int .i64 z, .int .i64 c.ms, .int .i64 1073741824] W fun e w' => e = .returned (.int .i64 x) ∧ w' = W) := c3
  clear c3
  go_wp2_with (first | (refine wpC_load rfl isC48 rfl rfl HF.out.2 ?_))
  refine (c1 _ HF.out.1).mono ?_
  clear k1 fz hlt
  rintro e w2 ⟨rfl, hB⟩
  have HG : Hid (Chg w g w2 ∧ Box w2 g 48 (ccL c)) := ⟨HF.out.1.later HF.out.2.lt hB, HF.out.2.later hB⟩
  clear HF hB
  have HF := HG
  clear HG
  have k1 := Box.cell HF.out.2 1 rfl
  have k2 := Box.cell HF.out.2 2 rfl
  have k10 := Box.cell HF.out.2 10 rfl
  have k17 := Box.cell HF.out.2 17 rfl
  have fz := fun i => Box.frozen HF.out.2 i
  have hlt := HF.out.2.lt
  clear c1
  go_upto_region 9 with fail
  refine rz9_reg (by rfl) { c with cw := z } g x rfl (box_to (HF.out.2.set 2 _) rfl) H3.out ?_
  intro T w9  hS
  simp only [Act.put, List.setIfInBounds_toArray, List.set_cons_zero, List.set_cons_succ]
  have HG : Hid (Chg w g w9 ∧ Box w9 g 48 (ccL { c with cw := x })) := ⟨(HF.out.1.set _ _).trans hS.1, hS.2⟩
  clear hS HF 
  have HF := HG
  clear HG
  clear H3
  go_wp2_with fail
  go_end0
  refine ⟨rfl, ?hs, ?hx⟩
  case hs => repeat (first | with_reducible exact HF.out.1 | with_reducible refine Chg.set ?_ _ _ | with_reducible refine Chg.drewN ?_ _ | with_reducible refine Chg.drew ?_)
  case hx =>
    apply box_to
    · repeat (first | with_reducible exact HF.out.2 | with_reducible apply Box.set | with_reducible apply Box.drewN | with_reducible apply Box.drew)
    · rfl

set_option maxRecDepth 100000 in
set_option maxHeartbeats 4000000 in
theorem rsz_c (c : Cc) (g : Nat) (w : World) (ak P tg x : Int) (m4 : IntKind.i64.wrap (4 * c.ms) = 4 * c.ms) (p2 : IntKind.i64.wrap (2 * P) = 2 * P) (hmx : (if 4 * c.ms < 2 * P then 2 * P else 4 * c.ms) = tg) (w1 : IntKind.i64.wrap (c.cw + ak) = c.cw + ak) (c1 : ∀ W, Chg w g W → Calls Tryd.prog 52 #[ccv c] W fun e w' => e = .returned (.int .i64 P) ∧ Below W.heap.size W w') (c3 : ∀ W, Calls Tryd.prog 62 #[.int .i64 (c.cw + ak), .int .i64 c.ms, .int .i64 1073741824] W fun e w' => e = .returned (.int .i64 x) ∧ w' = W) (d4 : (c.md == 4) = false) (d3 : (c.fc == 3) = false) (d5 : decide (c.cw < tg) = true) (hb : Box w g 48 (ccL c)) : Calls Tryd.prog 32 #[.pointer (some ⟨g, 0, none⟩), .int .i64 ak] w fun e w' => e = .returned (.tuple #[]) ∧ Chg w g w' ∧ Box w' g 48 (ccL { c with cw := x }) := by
  have HF : Hid (Chg w g w ∧ Box w g 48 (ccL c)) := ⟨Chg.refl w g, hb⟩
  clear hb
  go_enter Tryd.func32, Tryd.ntmps32
  have k1 := Box.cell HF.out.2 1 rfl
  have fz := fun i => Box.frozen HF.out.2 i
  have hlt := HF.out.2.lt
  have H3 : Hid (∀ W, Calls Tryd.prog 62 #[.int .i64 (c.cw + ak), .int .i64 c.ms, .int .i64 1073741824] W fun e w' => e = .returned (.int .i64 x) ∧ w' = W) := c3
  clear c3
  go_wp2_with (first | (refine wpC_load rfl isC48 rfl rfl HF.out.2 ?_))
  refine (c1 _ HF.out.1).mono ?_
  clear k1 fz hlt
  rintro e w2 ⟨rfl, hB⟩
  have HG : Hid (Chg w g w2 ∧ Box w2 g 48 (ccL c)) := ⟨HF.out.1.later HF.out.2.lt hB, HF.out.2.later hB⟩
  clear HF hB
  have HF := HG
  clear HG
  have k1 := Box.cell HF.out.2 1 rfl
  have k2 := Box.cell HF.out.2 2 rfl
  have k10 := Box.cell HF.out.2 10 rfl
  have k17 := Box.cell HF.out.2 17 rfl
  have fz := fun i => Box.frozen HF.out.2 i
  have hlt := HF.out.2.lt
  clear c1
  go_upto_region 9 with fail
  refine rz9_reg (by rfl) { c with cw := c.cw + ak } g x rfl (box_to (HF.out.2.set 2 _) rfl) H3.out ?_
  intro T w9  hS
  simp only [Act.put, List.setIfInBounds_toArray, List.set_cons_zero, List.set_cons_succ]
  have HG : Hid (Chg w g w9 ∧ Box w9 g 48 (ccL { c with cw := x })) := ⟨(HF.out.1.set _ _).trans hS.1, hS.2⟩
  clear hS HF 
  have HF := HG
  clear HG
  clear H3
  go_wp2_with fail
  go_end0
  refine ⟨rfl, ?hs, ?hx⟩
  case hs => repeat (first | with_reducible exact HF.out.1 | with_reducible refine Chg.set ?_ _ _ | with_reducible refine Chg.drewN ?_ _ | with_reducible refine Chg.drew ?_)
  case hx =>
    apply box_to
    · repeat (first | with_reducible exact HF.out.2 | with_reducible apply Box.set | with_reducible apply Box.drewN | with_reducible apply Box.drew)
    · rfl

set_option maxRecDepth 100000 in
set_option maxHeartbeats 4000000 in
theorem rsz_d (c : Cc) (g : Nat) (w : World) (ak P tg x : Int) (m4 : IntKind.i64.wrap (4 * c.ms) = 4 * c.ms) (p2 : IntKind.i64.wrap (2 * P) = 2 * P) (hmx : (if 4 * c.ms < 2 * P then 2 * P else 4 * c.ms) = tg) (w1 : IntKind.i64.wrap (c.cw + ak) = c.cw + ak) (c1 : ∀ W, Chg w g W → Calls Tryd.prog 52 #[ccv c] W fun e w' => e = .returned (.int .i64 P) ∧ Below W.heap.size W w') (c3 : ∀ W, Calls Tryd.prog 62 #[.int .i64 (c.cw + ak), .int .i64 c.ms, .int .i64 1073741824] W fun e w' => e = .returned (.int .i64 x) ∧ w' = W) (d4 : (c.md == 4) = false) (d3 : (c.fc == 3) = false) (d5 : decide (c.cw < tg) = false) (b : Int) (c2 : ∀ W, Chg w g W → Calls Tryd.prog 51 #[ccv c] W fun e w' => e = .returned (.int .i64 b) ∧ Below W.heap.size W w') (b0 : (b == 0) = true) (hb : Box w g 48 (ccL c)) : Calls Tryd.prog 32 #[.pointer (some ⟨g, 0, none⟩), .int .i64 ak] w fun e w' => e = .returned (.tuple #[]) ∧ Chg w g w' ∧ Box w' g 48 (ccL { c with cw := x }) := by
  have HF : Hid (Chg w g w ∧ Box w g 48 (ccL c)) := ⟨Chg.refl w g, hb⟩
  clear hb
  go_enter Tryd.func32, Tryd.ntmps32
  have k1 := Box.cell HF.out.2 1 rfl
  have fz := fun i => Box.frozen HF.out.2 i
  have hlt := HF.out.2.lt
  have H3 : Hid (∀ W, Calls Tryd.prog 62 #[.int .i64 (c.cw + ak), .int .i64 c.ms, .int .i64 1073741824] W fun e w' => e = .returned (.int .i64 x) ∧ w' = W) := c3
  clear c3
  go_wp2_with (first | (refine wpC_load rfl isC48 rfl rfl HF.out.2 ?_))
  refine (c1 _ HF.out.1).mono ?_
  clear k1 fz hlt
  rintro e w2 ⟨rfl, hB⟩
  have HG : Hid (Chg w g w2 ∧ Box w2 g 48 (ccL c)) := ⟨HF.out.1.later HF.out.2.lt hB, HF.out.2.later hB⟩
  clear HF hB
  have HF := HG
  clear HG
  have k1 := Box.cell HF.out.2 1 rfl
  have k2 := Box.cell HF.out.2 2 rfl
  have k10 := Box.cell HF.out.2 10 rfl
  have k17 := Box.cell HF.out.2 17 rfl
  have fz := fun i => Box.frozen HF.out.2 i
  have hlt := HF.out.2.lt
  clear c1
  go_wp2_with (first | (refine wpC_loadG (by rfl) isC48 rfl rfl HF.out.2 ?_))
  refine (c2 _ HF.out.1).mono ?_
  clear k1 k2 k10 k17 fz hlt
  rintro e w3 ⟨rfl, hB⟩
  have HG : Hid (Chg w g w3 ∧ Box w3 g 48 (ccL c)) := ⟨HF.out.1.later HF.out.2.lt hB, HF.out.2.later hB⟩
  clear HF hB
  have HF := HG
  clear HG
  have k1 := Box.cell HF.out.2 1 rfl
  have k2 := Box.cell HF.out.2 2 rfl
  have k10 := Box.cell HF.out.2 10 rfl
  have k17 := Box.cell HF.out.2 17 rfl
  have fz := fun i => Box.frozen HF.out.2 i
  have hlt := HF.out.2.lt
  clear c2
  go_upto_region 9 with fail
  refine rz9_reg (by rfl) { c with cw := c.cw + ak } g x rfl (box_to (HF.out.2.set 2 _) rfl) H3.out ?_
  intro T w9  hS
  simp only [Act.put, List.setIfInBounds_toArray, List.set_cons_zero, List.set_cons_succ]
  have HG : Hid (Chg w g w9 ∧ Box w9 g 48 (ccL { c with cw := x })) := ⟨(HF.out.1.set _ _).trans hS.1, hS.2⟩
  clear hS HF 
  have HF := HG
  clear HG
  clear H3
  go_wp2_with fail
  go_end0
  refine ⟨rfl, ?hs, ?hx⟩
  case hs => repeat (first | with_reducible exact HF.out.1 | with_reducible refine Chg.set ?_ _ _ | with_reducible refine Chg.drewN ?_ _ | with_reducible refine Chg.drew ?_)
  case hx =>
    apply box_to
    · repeat (first | with_reducible exact HF.out.2 | with_reducible apply Box.set | with_reducible apply Box.drewN | with_reducible apply Box.drew)
    · rfl

set_option maxRecDepth 100000 in
set_option maxHeartbeats 4000000 in
theorem rsz_e (c : Cc) (g : Nat) (w : World) (ak P tg x : Int) (m4 : IntKind.i64.wrap (4 * c.ms) = 4 * c.ms) (p2 : IntKind.i64.wrap (2 * P) = 2 * P) (hmx : (if 4 * c.ms < 2 * P then 2 * P else 4 * c.ms) = tg) (w1 : IntKind.i64.wrap (c.cw + ak) = c.cw + ak) (c1 : ∀ W, Chg w g W → Calls Tryd.prog 52 #[ccv c] W fun e w' => e = .returned (.int .i64 P) ∧ Below W.heap.size W w') (c3 : ∀ W, Calls Tryd.prog 62 #[.int .i64 c.cw, .int .i64 c.ms, .int .i64 1073741824] W fun e w' => e = .returned (.int .i64 x) ∧ w' = W) (d4 : (c.md == 4) = false) (d3 : (c.fc == 3) = false) (d5 : decide (c.cw < tg) = false) (b : Int) (c2 : ∀ W, Chg w g W → Calls Tryd.prog 51 #[ccv c] W fun e w' => e = .returned (.int .i64 b) ∧ Below W.heap.size W w') (b0 : (b == 0) = false) (hb : Box w g 48 (ccL c)) : Calls Tryd.prog 32 #[.pointer (some ⟨g, 0, none⟩), .int .i64 ak] w fun e w' => e = .returned (.tuple #[]) ∧ Chg w g w' ∧ Box w' g 48 (ccL { c with cw := x }) := by
  have HF : Hid (Chg w g w ∧ Box w g 48 (ccL c)) := ⟨Chg.refl w g, hb⟩
  clear hb
  go_enter Tryd.func32, Tryd.ntmps32
  have k1 := Box.cell HF.out.2 1 rfl
  have fz := fun i => Box.frozen HF.out.2 i
  have hlt := HF.out.2.lt
  have H3 : Hid (∀ W, Calls Tryd.prog 62 #[.int .i64 c.cw, .int .i64 c.ms, .int .i64 1073741824] W fun e w' => e = .returned (.int .i64 x) ∧ w' = W) := c3
  clear c3
  go_wp2_with (first | (refine wpC_load rfl isC48 rfl rfl HF.out.2 ?_))
  refine (c1 _ HF.out.1).mono ?_
  clear k1 fz hlt
  rintro e w2 ⟨rfl, hB⟩
  have HG : Hid (Chg w g w2 ∧ Box w2 g 48 (ccL c)) := ⟨HF.out.1.later HF.out.2.lt hB, HF.out.2.later hB⟩
  clear HF hB
  have HF := HG
  clear HG
  have k1 := Box.cell HF.out.2 1 rfl
  have k2 := Box.cell HF.out.2 2 rfl
  have k10 := Box.cell HF.out.2 10 rfl
  have k17 := Box.cell HF.out.2 17 rfl
  have fz := fun i => Box.frozen HF.out.2 i
  have hlt := HF.out.2.lt
  clear c1
  go_wp2_with (first | (refine wpC_loadG (by rfl) isC48 rfl rfl HF.out.2 ?_))
  refine (c2 _ HF.out.1).mono ?_
  clear k1 k2 k10 k17 fz hlt
  rintro e w3 ⟨rfl, hB⟩
  have HG : Hid (Chg w g w3 ∧ Box w3 g 48 (ccL c)) := ⟨HF.out.1.later HF.out.2.lt hB, HF.out.2.later hB⟩
  clear HF hB
  have HF := HG
  clear HG
  have k1 := Box.cell HF.out.2 1 rfl
  have k2 := Box.cell HF.out.2 2 rfl
  have k10 := Box.cell HF.out.2 10 rfl
  have k17 := Box.cell HF.out.2 17 rfl
  have fz := fun i => Box.frozen HF.out.2 i
  have hlt := HF.out.2.lt
  clear c2
  go_upto_region 9 with fail
  refine rz9_reg (by rfl) c g x rfl (box_to HF.out.2 rfl) H3.out ?_
  intro T w9  hS
  simp only [Act.put, List.setIfInBounds_toArray, List.set_cons_zero, List.set_cons_succ]
  have HG : Hid (Chg w g w9 ∧ Box w9 g 48 (ccL { c with cw := x })) := ⟨HF.out.1.trans hS.1, hS.2⟩
  clear hS HF 
  have HF := HG
  clear HG
  clear H3
  go_wp2_with fail
  go_end0
  refine ⟨rfl, ?hs, ?hx⟩
  case hs => repeat (first | with_reducible exact HF.out.1 | with_reducible refine Chg.set ?_ _ _ | with_reducible refine Chg.drewN ?_ _ | with_reducible refine Chg.drew ?_)
  case hx =>
    apply box_to
    · repeat (first | with_reducible exact HF.out.2 | with_reducible apply Box.set | with_reducible apply Box.drewN | with_reducible apply Box.drew)
    · rfl

theorem rez_is (c : Cc) (g : Nat) (ak P b : Int) (hm : 1 ≤ c.ms ∧ c.ms ≤ 65000) (hw : 0 ≤ c.cw ∧ c.cw ≤ 1073741824) (ha : 0 ≤ ak ∧ ak ≤ 1073741824) (hp : 0 ≤ P ∧ P ≤ 1073741824) (w : World) (c1 : ∀ W, Chg w g W → Calls Tryd.prog 52 #[ccv c] W fun e w' => e = .returned (.int .i64 P) ∧ Below W.heap.size W w') (c2 : ∀ W, Chg w g W → Calls Tryd.prog 51 #[ccv c] W fun e w' => e = .returned (.int .i64 b) ∧ Below W.heap.size W w') (hb : Box w g 48 (ccL c)) : Calls Tryd.prog 32 #[.pointer (some ⟨g, 0, none⟩), .int .i64 ak] w fun e w' => e = .returned (.tuple #[]) ∧ Chg w g w' ∧ Box w' g 48 (ccL (rszE c ak P b)) := by
  have m4 : IntKind.i64.wrap (4 * c.ms) = 4 * c.ms := by rw [IntKind.wrap_i64]; omega
  have p2 : IntKind.i64.wrap (2 * P) = 2 * P := by rw [IntKind.wrap_i64]; omega
  have w1 : IntKind.i64.wrap (c.cw + ak) = c.cw + ak := by rw [IntKind.wrap_i64]; omega
  have hmx : (if 4 * c.ms < 2 * P then 2 * P else 4 * c.ms) = tgtI c P := by unfold tgtI; split <;> omega
  unfold rszE
  obtain ⟨tg, ht⟩ : ∃ t, tgtI c P = t := ⟨_, rfl⟩
  rw [ht] at hmx
  by_cases h4 : c.md = 4
  · have e : rawW c ak P b = min c.cw (4 * c.ms) := by unfold rawW; rw [if_pos h4]
    rw [e]
    exact rsz_a c g w ak P tg _ _ m4 p2 hmx w1 c1 (fun W => clamp_walk _ _ _ W) (by simpa using h4) (by split <;> omega) hb
  have d4 : (c.md == 4) = false := by simpa using h4
  by_cases h3 : c.fc = 3
  · have e : rawW c ak P b = min (c.cw + ak) tg := by unfold rawW; rw [if_neg h4, if_pos h3, ht]
    rw [e]
    exact rsz_b c g w ak P tg _ _ m4 p2 hmx w1 c1 (fun W => clamp_walk _ _ _ W) d4 (by simpa using h3) (by split <;> omega) hb
  have d3 : (c.fc == 3) = false := by simpa using h3
  by_cases h5 : c.cw < tg
  · have e : rawW c ak P b = c.cw + ak := by unfold rawW; rw [if_neg h4, if_neg h3, ht, if_pos (Or.inl h5)]
    rw [e]
    exact rsz_c c g w ak P tg _ m4 p2 hmx w1 c1 (fun W => clamp_walk _ _ _ W) d4 d3 (decide_eq_true h5) hb
  by_cases h6 : b = 0
  · have e : rawW c ak P b = c.cw + ak := by unfold rawW; rw [if_neg h4, if_neg h3, ht, if_pos (Or.inr h6)]
    rw [e]
    exact rsz_d c g w ak P tg _ m4 p2 hmx w1 c1 (fun W => clamp_walk _ _ _ W) d4 d3 (decide_eq_false h5) b c2 (by simpa using h6) hb
  · have e : rawW c ak P b = c.cw := by unfold rawW; rw [if_neg h4, if_neg h3, ht, if_neg (by omega)]
    rw [e]
    exact rsz_e c g w ak P tg _ m4 p2 hmx w1 c1 (fun W => clamp_walk _ _ _ W) d4 d3 (decide_eq_false h5) b c2 (by simpa using h6) hb
end Go.Proofs.YtagmighcofllhaaDoor
