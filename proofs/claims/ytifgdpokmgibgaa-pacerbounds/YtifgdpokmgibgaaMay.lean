/- The contract of May. -/
import Derived.Test.YtifgdpokmgibgaaCheck
namespace Go.Proofs.Ytifgdpokmgibgaa
open Go.ChangeShapes Go.WideShapes Go.ChangeAt Go.RowKit Go.Shelf
set_option linter.unusedVariables false
set_option linter.unusedSimpArgs false
attribute [local go_sem] Oper.semAt_some


set_option maxRecDepth 100000 in
set_option maxHeartbeats 4000000 in
theorem may_no (p : Pc) (n : Int) (c1 : ∀ W, Calls Try.prog 17 #[agv (pcL p)] W fun e w' => e = .returned (.int .i64 230) ∧ Below W.heap.size W w')  (w : World) : Calls Try.prog 15 #[agv (pcL p), .int .i64 n] w fun e w' => e = .returned (.bool false) ∧ Below w.heap.size w w' := by
  go_enter Try.func15, Try.ntmps15
  go_wp2_with (first | (refine wpS_box rfl rfl rfl ?_))
  intro X1 g HN
  have HX1 : Hid (Below w.heap.size w X1 ∧ Box X1 g 23 (pcL p) ∧ w.heap.size ≤ g ∧ True) := by
    have hb := Below.refl w.heap.size w
    obtain ⟨hg, hb2, bn⟩ := HN.out
    have hz := hb.size
    exact ⟨Below.on hb hb2, bn, by omega, trivial⟩
  clear HN 
  go_wp2_with (first | (refine wpS_load rfl rfl rfl (HX1.out.2.1) isS23 ?_) | fail)
  refine (c1 _).mono ?_
  rintro e w2 ⟨rfl, hB⟩
  have HX2 : Hid (Below w.heap.size w w2 ∧ Box w2 g 23 (pcL p) ∧ w.heap.size ≤ g ∧ True) := by
    obtain ⟨hb, b0, l0, _⟩ := HX1.out
    exact ⟨Below.on hb hB, b0.later hB, l0, trivial⟩
  clear hB HX1
  go_wp2_with fail
  go_ret
  exact ⟨rfl, HX2.out.1⟩

set_option maxRecDepth 100000 in
set_option maxHeartbeats 4000000 in
theorem may_sz (p : Pc) (n : Int) (c1 : ∀ W, Calls Try.prog 17 #[agv (pcL p)] W fun e w' => e = .returned (.int .i64 0) ∧ Below W.heap.size W w') (c2 : ∀ W, Calls Try.prog 27 #[.int .i64 n] W fun e w' => e = .returned (.bool false) ∧ w' = W)  (w : World) : Calls Try.prog 15 #[agv (pcL p), .int .i64 n] w fun e w' => e = .returned (.bool false) ∧ Below w.heap.size w w' := by
  go_enter Try.func15, Try.ntmps15
  go_wp2_with (first | (refine wpS_box rfl rfl rfl ?_))
  intro X1 g HN
  have HX1 : Hid (Below w.heap.size w X1 ∧ Box X1 g 23 (pcL p) ∧ w.heap.size ≤ g ∧ True) := by
    have hb := Below.refl w.heap.size w
    obtain ⟨hg, hb2, bn⟩ := HN.out
    have hz := hb.size
    exact ⟨Below.on hb hb2, bn, by omega, trivial⟩
  clear HN 
  go_wp2_with (first | (refine wpS_load rfl rfl rfl (HX1.out.2.1) isS23 ?_) | fail)
  refine (c1 _).mono ?_
  rintro e w2 ⟨rfl, hB⟩
  have HX2 : Hid (Below w.heap.size w w2 ∧ Box w2 g 23 (pcL p) ∧ w.heap.size ≤ g ∧ True) := by
    obtain ⟨hb, b0, l0, _⟩ := HX1.out
    exact ⟨Below.on hb hB, b0.later hB, l0, trivial⟩
  clear hB HX1
  go_wp2_with fail
  refine (c2 _).mono ?_
  rintro e w' ⟨rfl, hq⟩
  obtain rfl := hq.symm
  clear hq
  go_wp2_with fail
  go_ret
  exact ⟨rfl, HX2.out.1⟩
def my3aO0 (ps : String) : Oper := { dst := some 13, op := .fieldAddr 23 (.tmp 2) 2, type := 0, pos := ps, after := #[], guard := none }
def my3aO1 (ps : String) : Oper := { dst := some 14, op := .load 3 (.tmp 13), type := 3, pos := ps, after := #[{ on := 0, ground := .data }], guard := none }
def my3aO2 (ps : String) : Oper := { dst := some 15, op := .move (.tmp 1), type := 3, pos := ps, after := #[], guard := none }
def my3aO3 (ps : String) : Oper := { dst := some 16, op := .binOp .mul 3 (.tmp 15) (.const (.int .i64 1000000)) 3, type := 3, pos := ps, after := #[{ on := 2, ground := .data }], guard := none }
def my3aO4 (ps : String) : Oper := { dst := some 17, op := .binOp .geq 3 (.tmp 14) (.tmp 16) 3, type := 4, pos := ps, after := #[{ on := 1, ground := .data }, { on := 3, ground := .data }], guard := none }
def my3aO5 (ps : String) : Oper := { dst := some 18, op := .move (.tmp 17), type := 4, pos := ps, after := #[{ on := 4, ground := .data }], guard := none }
def my3aO6 (ps : String) : Oper := { dst := some 19, op := .load 23 (.tmp 2), type := 23, pos := ps, after := #[{ on := 5, ground := .guard }], guard := some (5, false) }
def my3aO7 (ps : String) : Oper := { dst := some 20, op := .load 23 (.tmp 2), type := 23, pos := ps, after := #[{ on := 5, ground := .guard }], guard := some (5, false) }
def my3aO8 (ps : String) : Oper := { dst := some 21, op := .call { callee := .value (.func 25), args := #[.tmp 20], argTypes := #[23] }, type := 23, pos := ps, after := #[{ on := 7, ground := .data }, { on := 5, ground := .chain }, { on := 5, ground := .guard }], guard := some (5, false) }
def my3aO9 (ps : String) : Oper := { dst := some 22, op := .binOp .eql 23 (.tmp 19) (.tmp 21) 23, type := 4, pos := ps, after := #[{ on := 6, ground := .data }, { on := 8, ground := .data }, { on := 5, ground := .guard }], guard := some (5, false) }
def my3aO10 (ps : String) : Oper := { dst := some 23, op := .pick (.tmp 18) (.const (.bool true)) (.tmp 22), type := 4, pos := ps, after := #[{ on := 5, ground := .data }, { on := 9, ground := .data }], guard := none }
def my3aO11 (ps : String) : Oper := { dst := some 4, op := .assign (.tmp 23), type := 4, pos := ps, after := #[{ on := 10, ground := .data }, { on := 8, ground := .chain }, { on := 0, ground := .phase }, { on := 1, ground := .phase }, { on := 2, ground := .phase }, { on := 3, ground := .phase }, { on := 4, ground := .phase }, { on := 5, ground := .phase }, { on := 6, ground := .phase }, { on := 7, ground := .phase }, { on := 8, ground := .phase }, { on := 9, ground := .phase }, { on := 10, ground := .phase }], guard := none }
def my3a (ps : String) : Array Oper := #[my3aO0 ps, my3aO1 ps, my3aO2 ps, my3aO3 ps, my3aO4 ps, my3aO5 ps, my3aO6 ps, my3aO7 ps, my3aO8 ps, my3aO9 ps, my3aO10 ps, my3aO11 ps]
theorem my3a_0 (ps : String) : (my3a ps)[0]? = some (my3aO0 ps) := rfl
theorem my3a_1 (ps : String) : (my3a ps)[1]? = some (my3aO1 ps) := rfl
theorem my3a_2 (ps : String) : (my3a ps)[2]? = some (my3aO2 ps) := rfl
theorem my3a_3 (ps : String) : (my3a ps)[3]? = some (my3aO3 ps) := rfl
theorem my3a_4 (ps : String) : (my3a ps)[4]? = some (my3aO4 ps) := rfl
theorem my3a_5 (ps : String) : (my3a ps)[5]? = some (my3aO5 ps) := rfl
theorem my3a_6 (ps : String) : (my3a ps)[6]? = some (my3aO6 ps) := rfl
theorem my3a_7 (ps : String) : (my3a ps)[7]? = some (my3aO7 ps) := rfl
theorem my3a_8 (ps : String) : (my3a ps)[8]? = some (my3aO8 ps) := rfl
theorem my3a_9 (ps : String) : (my3a ps)[9]? = some (my3aO9 ps) := rfl
theorem my3a_10 (ps : String) : (my3a ps)[10]? = some (my3aO10 ps) := rfl
theorem my3a_11 (ps : String) : (my3a ps)[11]? = some (my3aO11 ps) := rfl
def my3aD : Nat → Option Tmp
  | 0 => some 13
  | 1 => some 14
  | 2 => some 15
  | 3 => some 16
  | 4 => some 17
  | 5 => some 18
  | 6 => some 19
  | 7 => some 20
  | 8 => some 21
  | 9 => some 22
  | 10 => some 23
  | 11 => some 4
  | _ => none
def my3aT (p : Pc) (n z : Int) (g B0 : Nat) (WW : World) : Nat → Value
  | 0 => .pointer (some ⟨g, 2, none⟩)
  | 1 => .int .i64 p.t
  | 2 => .int .i64 n
  | 3 => .int .i64 z
  | 4 => .bool true
  | 5 => .bool true
  | 6 => undef
  | 7 => undef
  | 8 => undef
  | 9 => undef
  | 10 => .bool true
  | 11 => .bool true
  | _ => undef
set_option maxRecDepth 100000 in
set_option maxHeartbeats 4000000 in
theorem my3a_reg {ps : String} {Q : Exit → Act → World → Prop} {a0 : Act} {W0 : World} (sz : a0.tmps.size = 24) (p : Pc) (n z : Int) (g B0 : Nat) (WW : World)
    (e2 : a0.eval (.tmp 2) = .pointer (some ⟨g, 0, none⟩)) (e1 : a0.eval (.tmp 1) = .int .i64 n)
    (l0 : B0 ≤ g) (hS0 : Below B0 WW W0 ∧ Box W0 g 23 (pcL p) ∧ True) (hw : IntKind.i64.wrap (n * 1000000) = z) (hd : decide (z ≤ p.t) = true) 
    (hfin : ∀ (T : Nat → Value) w, T 11 = .bool true → Below B0 WW w ∧ Box w g 23 (pcL p) ∧ True → Q .normal ((((((((((((a0.put (some 13) (T 0)).put (some 14) (T 1)).put (some 15) (T 2)).put (some 16) (T 3)).put (some 17) (T 4)).put (some 18) (T 5)).put (some 19) (T 6)).put (some 20) (T 7)).put (some 21) (T 8)).put (some 22) (T 9)).put (some 23) (T 10)).put (some 4) (T 11)) w) :
    (Code.region 3 (my3a ps) true).wp Try.prog Q a0 W0 := by
  refine wp_region_dets (by kernel_rfl) 12 rfl my3aD ?_ (by decide) (my3aT p n z g B0 WW) (fun D w => Below B0 WW w ∧ Box w g 23 (pcL p) ∧ True) (fun D _ => ⟨hS0.1.drew, hS0.2.1, trivial⟩) ?_ (by rfl) (fun w D _ hSw => hfin (my3aT p n z g B0 WW) w rfl hSw)
  · intro jq t hj ht
    have : ∀ j, j < 12 → (my3aD j).all (· < 24) = true := by decide
    have := this jq hj
    rw [ht] at this
    rw [sz]
    simpa using this
  · intro iq o ho D a w hSw hDi hcl hs hel K hK
    have hin : iq < 12 := (Array.getElem?_eq_some_iff.1 ho).1
    match iq, hin, ho with
    | 0, _, ho =>
      obtain rfl := Option.some.inj (ho.symm.trans (my3a_0 ps))
      have u2 : a.eval (.tmp 2) = .pointer (some ⟨g, 0, none⟩) := (hel 2 (by decide)).trans e2
      exact op_valW (my3a_0 ps) rfl (v := .pointer (some ⟨g, 2, none⟩)) (by unfold my3aO0 execOp; simp only [u2]; first | (go_simp; done) | (go_simp; with_reducible rfl)) (hK w (fun D' _ _ => hSw))
    | 1, _, ho =>
      obtain rfl := Option.some.inj (ho.symm.trans (my3a_1 ps))
      have s0 : a.eval (.tmp 13) = .pointer (some ⟨g, 2, none⟩) := hs 0 13 (by rfl) rfl
      have hcl := Box.cell hSw.2.1 2 rfl
      exact op_valW (my3a_1 ps) rfl (v := .int .i64 p.t) (by unfold my3aO1 execOp; simp only [s0]; first | (go_simp; done) | (go_simp; with_reducible rfl)) (hK w (fun D' _ _ => hSw))
    | 2, _, ho =>
      obtain rfl := Option.some.inj (ho.symm.trans (my3a_2 ps))
      have u1 : a.eval (.tmp 1) = .int .i64 n := (hel 1 (by decide)).trans e1
      exact op_valW (my3a_2 ps) rfl (v := .int .i64 n) (by unfold my3aO2 execOp; simp only [u1]; first | (go_simp; done) | (go_simp; with_reducible rfl)) (hK w (fun D' _ _ => hSw))
    | 3, _, ho =>
      obtain rfl := Option.some.inj (ho.symm.trans (my3a_3 ps))
      have s2 : a.eval (.tmp 15) = .int .i64 n := hs 2 15 (by rfl) rfl
      have hw2 := hw
      exact op_valW (my3a_3 ps) rfl (v := .int .i64 z) (by unfold my3aO3 execOp; simp only [s2]; first | (go_simp; done) | (go_simp; with_reducible rfl)) (hK w (fun D' _ _ => hSw))
    | 4, _, ho =>
      obtain rfl := Option.some.inj (ho.symm.trans (my3a_4 ps))
      have s1 : a.eval (.tmp 14) = .int .i64 p.t := hs 1 14 (by rfl) rfl
      have s3 : a.eval (.tmp 16) = .int .i64 z := hs 3 16 (by rfl) rfl
      have hd2 := hd
      exact op_valW (my3a_4 ps) rfl (v := .bool true) (by unfold my3aO4 execOp; simp only [s1, s3]; first | (go_simp; done) | (go_simp; with_reducible rfl)) (hK w (fun D' _ _ => hSw))
    | 5, _, ho =>
      obtain rfl := Option.some.inj (ho.symm.trans (my3a_5 ps))
      have s4 : a.eval (.tmp 17) = .bool true := hs 4 17 (by rfl) rfl
      exact op_valW (my3a_5 ps) rfl (v := .bool true) (by unfold my3aO5 execOp; simp only [s4]; first | (go_simp; done) | (go_simp; with_reducible rfl)) (hK w (fun D' _ _ => hSw))
    | 6, _, ho =>
      obtain rfl := Option.some.inj (ho.symm.trans (my3a_6 ps))
      have s5 : a.eval (.tmp 18) = .bool true := hs 5 18 (by rfl) rfl
      have u2 : a.eval (.tmp 2) = .pointer (some ⟨g, 0, none⟩) := (hel 2 (by decide)).trans e2
      exact op_skip (my3a_6 ps) (by rw [wanted_of rfl (my3a_5 ps) rfl s5]; rfl) (hK w (fun D' _ _ => hSw))
    | 7, _, ho =>
      obtain rfl := Option.some.inj (ho.symm.trans (my3a_7 ps))
      have s5 : a.eval (.tmp 18) = .bool true := hs 5 18 (by rfl) rfl
      have u2 : a.eval (.tmp 2) = .pointer (some ⟨g, 0, none⟩) := (hel 2 (by decide)).trans e2
      exact op_skip (my3a_7 ps) (by rw [wanted_of rfl (my3a_5 ps) rfl s5]; rfl) (hK w (fun D' _ _ => hSw))
    | 8, _, ho =>
      obtain rfl := Option.some.inj (ho.symm.trans (my3a_8 ps))
      have s7 : a.eval (.tmp 20) = undef := hs 7 20 (by rfl) rfl
      have s5 : a.eval (.tmp 18) = .bool true := hs 5 18 (by rfl) rfl
      exact op_skip (my3a_8 ps) (by rw [wanted_of rfl (my3a_5 ps) rfl s5]; rfl) (hK w (fun D' _ _ => hSw))
    | 9, _, ho =>
      obtain rfl := Option.some.inj (ho.symm.trans (my3a_9 ps))
      have s6 : a.eval (.tmp 19) = undef := hs 6 19 (by rfl) rfl
      have s8 : a.eval (.tmp 21) = undef := hs 8 21 (by rfl) rfl
      have s5 : a.eval (.tmp 18) = .bool true := hs 5 18 (by rfl) rfl
      exact op_skip (my3a_9 ps) (by rw [wanted_of rfl (my3a_5 ps) rfl s5]; rfl) (hK w (fun D' _ _ => hSw))
    | 10, _, ho =>
      obtain rfl := Option.some.inj (ho.symm.trans (my3a_10 ps))
      have s5 : a.eval (.tmp 18) = .bool true := hs 5 18 (by rfl) rfl
      have s9 : a.eval (.tmp 22) = undef := hs 9 22 (by rfl) rfl
      exact op_valW (my3a_10 ps) rfl (v := .bool true) (by unfold my3aO10 execOp; simp only [s5, s9]; first | (go_simp; done) | (go_simp; with_reducible rfl)) (hK w (fun D' _ _ => hSw))
    | 11, _, ho =>
      obtain rfl := Option.some.inj (ho.symm.trans (my3a_11 ps))
      have s10 : a.eval (.tmp 23) = .bool true := hs 10 23 (by rfl) rfl
      exact op_valW (my3a_11 ps) rfl (v := .bool true) (by unfold my3aO11 execOp; simp only [s10]; first | (go_simp; done) | (go_simp; with_reducible rfl)) (hK w (fun D' _ _ => hSw))
    | iq + 12, hin, _ => exact absurd hin (by omega)

set_option maxRecDepth 100000 in
set_option maxHeartbeats 4000000 in
theorem may_a (p : Pc) (n z : Int) (c1 : ∀ W, Calls Try.prog 17 #[agv (pcL p)] W fun e w' => e = .returned (.int .i64 0) ∧ Below W.heap.size W w') (c2 : ∀ W, Calls Try.prog 27 #[.int .i64 n] W fun e w' => e = .returned (.bool true) ∧ w' = W) (hw : IntKind.i64.wrap (n * 1000000) = z) (hd : decide (z ≤ p.t) = true)  (w : World) : Calls Try.prog 15 #[agv (pcL p), .int .i64 n] w fun e w' => e = .returned (.bool true) ∧ Below w.heap.size w w' := by
  go_enter Try.func15, Try.ntmps15
  go_wp2_with (first | (refine wpS_box rfl rfl rfl ?_))
  intro X1 g HN
  have HX1 : Hid (Below w.heap.size w X1 ∧ Box X1 g 23 (pcL p) ∧ w.heap.size ≤ g ∧ True) := by
    have hb := Below.refl w.heap.size w
    obtain ⟨hg, hb2, bn⟩ := HN.out
    have hz := hb.size
    exact ⟨Below.on hb hb2, bn, by omega, trivial⟩
  clear HN 
  go_wp2_with (first | (refine wpS_load rfl rfl rfl (HX1.out.2.1) isS23 ?_) | fail)
  refine (c1 _).mono ?_
  rintro e w2 ⟨rfl, hB⟩
  have HX2 : Hid (Below w.heap.size w w2 ∧ Box w2 g 23 (pcL p) ∧ w.heap.size ≤ g ∧ True) := by
    obtain ⟨hb, b0, l0, _⟩ := HX1.out
    exact ⟨Below.on hb hB, b0.later hB, l0, trivial⟩
  clear hB HX1
  go_wp2_with fail
  refine (c2 _).mono ?_
  rintro e w' ⟨rfl, hq⟩
  obtain rfl := hq.symm
  clear hq
  go_upto_region 3 with fail
  refine my3a_reg (by rfl) p n z g _ _  rfl rfl (HX2.out.2.2.1) ⟨HX2.out.1, HX2.out.2.1, trivial⟩ hw hd ?_
  intro T X3 hT hS
  simp only [Act.put, List.setIfInBounds_toArray, List.set_cons_zero, List.set_cons_succ]
  simp only [hT]
  have HX3 : Hid (Below w.heap.size w X3 ∧ Box X3 g 23 (pcL p) ∧ w.heap.size ≤ g ∧ True) := by
    obtain ⟨hb, b0, l0, _⟩ := HX2.out
    exact ⟨hS.1, hS.2.1, l0, trivial⟩
  clear hS hT HX2
  go_wp2_with fail
  go_ret
  exact ⟨rfl, HX3.out.1⟩
def my3bO0 (ps : String) : Oper := { dst := some 13, op := .fieldAddr 23 (.tmp 2) 2, type := 0, pos := ps, after := #[], guard := none }
def my3bO1 (ps : String) : Oper := { dst := some 14, op := .load 3 (.tmp 13), type := 3, pos := ps, after := #[{ on := 0, ground := .data }], guard := none }
def my3bO2 (ps : String) : Oper := { dst := some 15, op := .move (.tmp 1), type := 3, pos := ps, after := #[], guard := none }
def my3bO3 (ps : String) : Oper := { dst := some 16, op := .binOp .mul 3 (.tmp 15) (.const (.int .i64 1000000)) 3, type := 3, pos := ps, after := #[{ on := 2, ground := .data }], guard := none }
def my3bO4 (ps : String) : Oper := { dst := some 17, op := .binOp .geq 3 (.tmp 14) (.tmp 16) 3, type := 4, pos := ps, after := #[{ on := 1, ground := .data }, { on := 3, ground := .data }], guard := none }
def my3bO5 (ps : String) : Oper := { dst := some 18, op := .move (.tmp 17), type := 4, pos := ps, after := #[{ on := 4, ground := .data }], guard := none }
def my3bO6 (ps : String) : Oper := { dst := some 19, op := .load 23 (.tmp 2), type := 23, pos := ps, after := #[{ on := 5, ground := .guard }], guard := some (5, false) }
def my3bO7 (ps : String) : Oper := { dst := some 20, op := .load 23 (.tmp 2), type := 23, pos := ps, after := #[{ on := 5, ground := .guard }], guard := some (5, false) }
def my3bO8 (ps : String) : Oper := { dst := some 21, op := .call { callee := .value (.func 25), args := #[.tmp 20], argTypes := #[23] }, type := 23, pos := ps, after := #[{ on := 7, ground := .data }, { on := 5, ground := .chain }, { on := 5, ground := .guard }], guard := some (5, false) }
def my3bO9 (ps : String) : Oper := { dst := some 22, op := .binOp .eql 23 (.tmp 19) (.tmp 21) 23, type := 4, pos := ps, after := #[{ on := 6, ground := .data }, { on := 8, ground := .data }, { on := 5, ground := .guard }], guard := some (5, false) }
def my3bO10 (ps : String) : Oper := { dst := some 23, op := .pick (.tmp 18) (.const (.bool true)) (.tmp 22), type := 4, pos := ps, after := #[{ on := 5, ground := .data }, { on := 9, ground := .data }], guard := none }
def my3bO11 (ps : String) : Oper := { dst := some 4, op := .assign (.tmp 23), type := 4, pos := ps, after := #[{ on := 10, ground := .data }, { on := 8, ground := .chain }, { on := 0, ground := .phase }, { on := 1, ground := .phase }, { on := 2, ground := .phase }, { on := 3, ground := .phase }, { on := 4, ground := .phase }, { on := 5, ground := .phase }, { on := 6, ground := .phase }, { on := 7, ground := .phase }, { on := 8, ground := .phase }, { on := 9, ground := .phase }, { on := 10, ground := .phase }], guard := none }
def my3b (ps : String) : Array Oper := #[my3bO0 ps, my3bO1 ps, my3bO2 ps, my3bO3 ps, my3bO4 ps, my3bO5 ps, my3bO6 ps, my3bO7 ps, my3bO8 ps, my3bO9 ps, my3bO10 ps, my3bO11 ps]
theorem my3b_0 (ps : String) : (my3b ps)[0]? = some (my3bO0 ps) := rfl
theorem my3b_1 (ps : String) : (my3b ps)[1]? = some (my3bO1 ps) := rfl
theorem my3b_2 (ps : String) : (my3b ps)[2]? = some (my3bO2 ps) := rfl
theorem my3b_3 (ps : String) : (my3b ps)[3]? = some (my3bO3 ps) := rfl
theorem my3b_4 (ps : String) : (my3b ps)[4]? = some (my3bO4 ps) := rfl
theorem my3b_5 (ps : String) : (my3b ps)[5]? = some (my3bO5 ps) := rfl
theorem my3b_6 (ps : String) : (my3b ps)[6]? = some (my3bO6 ps) := rfl
theorem my3b_7 (ps : String) : (my3b ps)[7]? = some (my3bO7 ps) := rfl
theorem my3b_8 (ps : String) : (my3b ps)[8]? = some (my3bO8 ps) := rfl
theorem my3b_9 (ps : String) : (my3b ps)[9]? = some (my3bO9 ps) := rfl
theorem my3b_10 (ps : String) : (my3b ps)[10]? = some (my3bO10 ps) := rfl
theorem my3b_11 (ps : String) : (my3b ps)[11]? = some (my3bO11 ps) := rfl
def my3bD : Nat → Option Tmp
  | 0 => some 13
  | 1 => some 14
  | 2 => some 15
  | 3 => some 16
  | 4 => some 17
  | 5 => some 18
  | 6 => some 19
  | 7 => some 20
  | 8 => some 21
  | 9 => some 22
  | 10 => some 23
  | 11 => some 4
  | _ => none
def my3bT (p : Pc) (n z : Int) (g B0 : Nat) (WW : World) : Nat → Value
  | 0 => .pointer (some ⟨g, 2, none⟩)
  | 1 => .int .i64 p.t
  | 2 => .int .i64 n
  | 3 => .int .i64 z
  | 4 => .bool false
  | 5 => .bool false
  | 6 => agv (pcL p)
  | 7 => agv (pcL p)
  | 8 => agv (pcL p)
  | 9 => .bool true
  | 10 => .bool true
  | 11 => .bool true
  | _ => undef
set_option maxRecDepth 100000 in
set_option maxHeartbeats 4000000 in
theorem my3b_reg {ps : String} {Q : Exit → Act → World → Prop} {a0 : Act} {W0 : World} (sz : a0.tmps.size = 24) (p : Pc) (n z : Int) (g B0 : Nat) (WW : World)
    (e2 : a0.eval (.tmp 2) = .pointer (some ⟨g, 0, none⟩)) (e1 : a0.eval (.tmp 1) = .int .i64 n)
    (l0 : B0 ≤ g) (hS0 : Below B0 WW W0 ∧ Box W0 g 23 (pcL p) ∧ True) (hw : IntKind.i64.wrap (n * 1000000) = z) (hd : decide (z ≤ p.t) = false) (c3 : ∀ W, Calls Try.prog 25 #[agv (pcL p)] W fun e w' => e = .returned (agv (pcL p)) ∧ Below W.heap.size W w') 
    (hfin : ∀ (T : Nat → Value) w, T 11 = .bool true → Below B0 WW w ∧ Box w g 23 (pcL p) ∧ True → Q .normal ((((((((((((a0.put (some 13) (T 0)).put (some 14) (T 1)).put (some 15) (T 2)).put (some 16) (T 3)).put (some 17) (T 4)).put (some 18) (T 5)).put (some 19) (T 6)).put (some 20) (T 7)).put (some 21) (T 8)).put (some 22) (T 9)).put (some 23) (T 10)).put (some 4) (T 11)) w) :
    (Code.region 3 (my3b ps) true).wp Try.prog Q a0 W0 := by
  refine wp_region_dets (by kernel_rfl) 12 rfl my3bD ?_ (by decide) (my3bT p n z g B0 WW) (fun D w => Below B0 WW w ∧ Box w g 23 (pcL p) ∧ True) (fun D _ => ⟨hS0.1.drew, hS0.2.1, trivial⟩) ?_ (by rfl) (fun w D _ hSw => hfin (my3bT p n z g B0 WW) w rfl hSw)
  · intro jq t hj ht
    have : ∀ j, j < 12 → (my3bD j).all (· < 24) = true := by decide
    have := this jq hj
    rw [ht] at this
    rw [sz]
    simpa using this
  · intro iq o ho D a w hSw hDi hcl hs hel K hK
    have hin : iq < 12 := (Array.getElem?_eq_some_iff.1 ho).1
    match iq, hin, ho with
    | 0, _, ho =>
      obtain rfl := Option.some.inj (ho.symm.trans (my3b_0 ps))
      have u2 : a.eval (.tmp 2) = .pointer (some ⟨g, 0, none⟩) := (hel 2 (by decide)).trans e2
      exact op_valW (my3b_0 ps) rfl (v := .pointer (some ⟨g, 2, none⟩)) (by unfold my3bO0 execOp; simp only [u2]; first | (go_simp; done) | (go_simp; with_reducible rfl)) (hK w (fun D' _ _ => hSw))
    | 1, _, ho =>
      obtain rfl := Option.some.inj (ho.symm.trans (my3b_1 ps))
      have s0 : a.eval (.tmp 13) = .pointer (some ⟨g, 2, none⟩) := hs 0 13 (by rfl) rfl
      have hcl := Box.cell hSw.2.1 2 rfl
      exact op_valW (my3b_1 ps) rfl (v := .int .i64 p.t) (by unfold my3bO1 execOp; simp only [s0]; first | (go_simp; done) | (go_simp; with_reducible rfl)) (hK w (fun D' _ _ => hSw))
    | 2, _, ho =>
      obtain rfl := Option.some.inj (ho.symm.trans (my3b_2 ps))
      have u1 : a.eval (.tmp 1) = .int .i64 n := (hel 1 (by decide)).trans e1
      exact op_valW (my3b_2 ps) rfl (v := .int .i64 n) (by unfold my3bO2 execOp; simp only [u1]; first | (go_simp; done) | (go_simp; with_reducible rfl)) (hK w (fun D' _ _ => hSw))
    | 3, _, ho =>
      obtain rfl := Option.some.inj (ho.symm.trans (my3b_3 ps))
      have s2 : a.eval (.tmp 15) = .int .i64 n := hs 2 15 (by rfl) rfl
      have hw2 := hw
      exact op_valW (my3b_3 ps) rfl (v := .int .i64 z) (by unfold my3bO3 execOp; simp only [s2]; first | (go_simp; done) | (go_simp; with_reducible rfl)) (hK w (fun D' _ _ => hSw))
    | 4, _, ho =>
      obtain rfl := Option.some.inj (ho.symm.trans (my3b_4 ps))
      have s1 : a.eval (.tmp 14) = .int .i64 p.t := hs 1 14 (by rfl) rfl
      have s3 : a.eval (.tmp 16) = .int .i64 z := hs 3 16 (by rfl) rfl
      have hd2 := hd
      exact op_valW (my3b_4 ps) rfl (v := .bool false) (by unfold my3bO4 execOp; simp only [s1, s3]; first | (go_simp; done) | (go_simp; with_reducible rfl)) (hK w (fun D' _ _ => hSw))
    | 5, _, ho =>
      obtain rfl := Option.some.inj (ho.symm.trans (my3b_5 ps))
      have s4 : a.eval (.tmp 17) = .bool false := hs 4 17 (by rfl) rfl
      exact op_valW (my3b_5 ps) rfl (v := .bool false) (by unfold my3bO5 execOp; simp only [s4]; first | (go_simp; done) | (go_simp; with_reducible rfl)) (hK w (fun D' _ _ => hSw))
    | 6, _, ho =>
      obtain rfl := Option.some.inj (ho.symm.trans (my3b_6 ps))
      have s5 : a.eval (.tmp 18) = .bool false := hs 5 18 (by rfl) rfl
      have u2 : a.eval (.tmp 2) = .pointer (some ⟨g, 0, none⟩) := (hel 2 (by decide)).trans e2
      exact op_valW (my3b_6 ps) (by rw [wanted_of rfl (my3b_5 ps) rfl s5]; rfl) (v := agv (pcL p)) (run_loadS isS23 rfl u2 hSw.2.1) (hK w (fun D' _ _ => hSw))
    | 7, _, ho =>
      obtain rfl := Option.some.inj (ho.symm.trans (my3b_7 ps))
      have s5 : a.eval (.tmp 18) = .bool false := hs 5 18 (by rfl) rfl
      have u2 : a.eval (.tmp 2) = .pointer (some ⟨g, 0, none⟩) := (hel 2 (by decide)).trans e2
      exact op_valW (my3b_7 ps) (by rw [wanted_of rfl (my3b_5 ps) rfl s5]; rfl) (v := agv (pcL p)) (run_loadS isS23 rfl u2 hSw.2.1) (hK w (fun D' _ _ => hSw))
    | 8, _, ho =>
      obtain rfl := Option.some.inj (ho.symm.trans (my3b_8 ps))
      have s7 : a.eval (.tmp 20) = agv (pcL p) := hs 7 20 (by rfl) rfl
      have s5 : a.eval (.tmp 18) = .bool false := hs 5 18 (by rfl) rfl
      exact op_enterW (my3b_8 ps) (by rw [wanted_of rfl (my3b_5 ps) rfl s5]; rfl) (f := 25) (args := #[agv (pcL p)]) (by rw [run_call rfl enter25]; simp only [List.map_toArray, List.map_cons, List.map_nil, s7]; try rfl) ((c3 w).mono (fun e w' hh => ⟨_, hh.1, hK w' (fun D' _ _ => ⟨hSw.1.trans (hh.2.mono (Nat.le_trans l0 (Nat.le_of_lt hSw.2.1.lt))), hSw.2.1.later hh.2, trivial⟩)⟩))
    | 9, _, ho =>
      obtain rfl := Option.some.inj (ho.symm.trans (my3b_9 ps))
      have s6 : a.eval (.tmp 19) = agv (pcL p) := hs 6 19 (by rfl) rfl
      have s8 : a.eval (.tmp 21) = agv (pcL p) := hs 8 21 (by rfl) rfl
      have s5 : a.eval (.tmp 18) = .bool false := hs 5 18 (by rfl) rfl
      exact op_valW (my3b_9 ps) (by rw [wanted_of rfl (my3b_5 ps) rfl s5]; rfl) (v := .bool true) (run_cmpS rfl s6 s8 (.inl rfl) (cmpS p)) (hK w (fun D' _ _ => hSw))
    | 10, _, ho =>
      obtain rfl := Option.some.inj (ho.symm.trans (my3b_10 ps))
      have s5 : a.eval (.tmp 18) = .bool false := hs 5 18 (by rfl) rfl
      have s9 : a.eval (.tmp 22) = .bool true := hs 9 22 (by rfl) rfl
      exact op_valW (my3b_10 ps) rfl (v := .bool true) (by unfold my3bO10 execOp; simp only [s5, s9]; first | (go_simp; done) | (go_simp; with_reducible rfl)) (hK w (fun D' _ _ => hSw))
    | 11, _, ho =>
      obtain rfl := Option.some.inj (ho.symm.trans (my3b_11 ps))
      have s10 : a.eval (.tmp 23) = .bool true := hs 10 23 (by rfl) rfl
      exact op_valW (my3b_11 ps) rfl (v := .bool true) (by unfold my3bO11 execOp; simp only [s10]; first | (go_simp; done) | (go_simp; with_reducible rfl)) (hK w (fun D' _ _ => hSw))
    | iq + 12, hin, _ => exact absurd hin (by omega)

set_option maxRecDepth 100000 in
set_option maxHeartbeats 4000000 in
theorem may_b (p : Pc) (n z : Int) (c1 : ∀ W, Calls Try.prog 17 #[agv (pcL p)] W fun e w' => e = .returned (.int .i64 0) ∧ Below W.heap.size W w') (c2 : ∀ W, Calls Try.prog 27 #[.int .i64 n] W fun e w' => e = .returned (.bool true) ∧ w' = W) (hw : IntKind.i64.wrap (n * 1000000) = z) (hd : decide (z ≤ p.t) = false) (c3 : ∀ W, Calls Try.prog 25 #[agv (pcL p)] W fun e w' => e = .returned (agv (pcL p)) ∧ Below W.heap.size W w')  (w : World) : Calls Try.prog 15 #[agv (pcL p), .int .i64 n] w fun e w' => e = .returned (.bool true) ∧ Below w.heap.size w w' := by
  go_enter Try.func15, Try.ntmps15
  go_wp2_with (first | (refine wpS_box rfl rfl rfl ?_))
  intro X1 g HN
  have HX1 : Hid (Below w.heap.size w X1 ∧ Box X1 g 23 (pcL p) ∧ w.heap.size ≤ g ∧ True) := by
    have hb := Below.refl w.heap.size w
    obtain ⟨hg, hb2, bn⟩ := HN.out
    have hz := hb.size
    exact ⟨Below.on hb hb2, bn, by omega, trivial⟩
  clear HN 
  go_wp2_with (first | (refine wpS_load rfl rfl rfl (HX1.out.2.1) isS23 ?_) | fail)
  refine (c1 _).mono ?_
  rintro e w2 ⟨rfl, hB⟩
  have HX2 : Hid (Below w.heap.size w w2 ∧ Box w2 g 23 (pcL p) ∧ w.heap.size ≤ g ∧ True) := by
    obtain ⟨hb, b0, l0, _⟩ := HX1.out
    exact ⟨Below.on hb hB, b0.later hB, l0, trivial⟩
  clear hB HX1
  go_wp2_with fail
  refine (c2 _).mono ?_
  rintro e w' ⟨rfl, hq⟩
  obtain rfl := hq.symm
  clear hq
  go_upto_region 3 with fail
  refine my3b_reg (by rfl) p n z g _ _  rfl rfl (HX2.out.2.2.1) ⟨HX2.out.1, HX2.out.2.1, trivial⟩ hw hd c3 ?_
  intro T X3 hT hS
  simp only [Act.put, List.setIfInBounds_toArray, List.set_cons_zero, List.set_cons_succ]
  simp only [hT]
  have HX3 : Hid (Below w.heap.size w X3 ∧ Box X3 g 23 (pcL p) ∧ w.heap.size ≤ g ∧ True) := by
    obtain ⟨hb, b0, l0, _⟩ := HX2.out
    exact ⟨hS.1, hS.2.1, l0, trivial⟩
  clear hS hT HX2
  go_wp2_with fail
  go_ret
  exact ⟨rfl, HX3.out.1⟩
def my3cO0 (ps : String) : Oper := { dst := some 13, op := .fieldAddr 23 (.tmp 2) 2, type := 0, pos := ps, after := #[], guard := none }
def my3cO1 (ps : String) : Oper := { dst := some 14, op := .load 3 (.tmp 13), type := 3, pos := ps, after := #[{ on := 0, ground := .data }], guard := none }
def my3cO2 (ps : String) : Oper := { dst := some 15, op := .move (.tmp 1), type := 3, pos := ps, after := #[], guard := none }
def my3cO3 (ps : String) : Oper := { dst := some 16, op := .binOp .mul 3 (.tmp 15) (.const (.int .i64 1000000)) 3, type := 3, pos := ps, after := #[{ on := 2, ground := .data }], guard := none }
def my3cO4 (ps : String) : Oper := { dst := some 17, op := .binOp .geq 3 (.tmp 14) (.tmp 16) 3, type := 4, pos := ps, after := #[{ on := 1, ground := .data }, { on := 3, ground := .data }], guard := none }
def my3cO5 (ps : String) : Oper := { dst := some 18, op := .move (.tmp 17), type := 4, pos := ps, after := #[{ on := 4, ground := .data }], guard := none }
def my3cO6 (ps : String) : Oper := { dst := some 19, op := .load 23 (.tmp 2), type := 23, pos := ps, after := #[{ on := 5, ground := .guard }], guard := some (5, false) }
def my3cO7 (ps : String) : Oper := { dst := some 20, op := .load 23 (.tmp 2), type := 23, pos := ps, after := #[{ on := 5, ground := .guard }], guard := some (5, false) }
def my3cO8 (ps : String) : Oper := { dst := some 21, op := .call { callee := .value (.func 25), args := #[.tmp 20], argTypes := #[23] }, type := 23, pos := ps, after := #[{ on := 7, ground := .data }, { on := 5, ground := .chain }, { on := 5, ground := .guard }], guard := some (5, false) }
def my3cO9 (ps : String) : Oper := { dst := some 22, op := .binOp .eql 23 (.tmp 19) (.tmp 21) 23, type := 4, pos := ps, after := #[{ on := 6, ground := .data }, { on := 8, ground := .data }, { on := 5, ground := .guard }], guard := some (5, false) }
def my3cO10 (ps : String) : Oper := { dst := some 23, op := .pick (.tmp 18) (.const (.bool true)) (.tmp 22), type := 4, pos := ps, after := #[{ on := 5, ground := .data }, { on := 9, ground := .data }], guard := none }
def my3cO11 (ps : String) : Oper := { dst := some 4, op := .assign (.tmp 23), type := 4, pos := ps, after := #[{ on := 10, ground := .data }, { on := 8, ground := .chain }, { on := 0, ground := .phase }, { on := 1, ground := .phase }, { on := 2, ground := .phase }, { on := 3, ground := .phase }, { on := 4, ground := .phase }, { on := 5, ground := .phase }, { on := 6, ground := .phase }, { on := 7, ground := .phase }, { on := 8, ground := .phase }, { on := 9, ground := .phase }, { on := 10, ground := .phase }], guard := none }
def my3c (ps : String) : Array Oper := #[my3cO0 ps, my3cO1 ps, my3cO2 ps, my3cO3 ps, my3cO4 ps, my3cO5 ps, my3cO6 ps, my3cO7 ps, my3cO8 ps, my3cO9 ps, my3cO10 ps, my3cO11 ps]
theorem my3c_0 (ps : String) : (my3c ps)[0]? = some (my3cO0 ps) := rfl
theorem my3c_1 (ps : String) : (my3c ps)[1]? = some (my3cO1 ps) := rfl
theorem my3c_2 (ps : String) : (my3c ps)[2]? = some (my3cO2 ps) := rfl
theorem my3c_3 (ps : String) : (my3c ps)[3]? = some (my3cO3 ps) := rfl
theorem my3c_4 (ps : String) : (my3c ps)[4]? = some (my3cO4 ps) := rfl
theorem my3c_5 (ps : String) : (my3c ps)[5]? = some (my3cO5 ps) := rfl
theorem my3c_6 (ps : String) : (my3c ps)[6]? = some (my3cO6 ps) := rfl
theorem my3c_7 (ps : String) : (my3c ps)[7]? = some (my3cO7 ps) := rfl
theorem my3c_8 (ps : String) : (my3c ps)[8]? = some (my3cO8 ps) := rfl
theorem my3c_9 (ps : String) : (my3c ps)[9]? = some (my3cO9 ps) := rfl
theorem my3c_10 (ps : String) : (my3c ps)[10]? = some (my3cO10 ps) := rfl
theorem my3c_11 (ps : String) : (my3c ps)[11]? = some (my3cO11 ps) := rfl
def my3cD : Nat → Option Tmp
  | 0 => some 13
  | 1 => some 14
  | 2 => some 15
  | 3 => some 16
  | 4 => some 17
  | 5 => some 18
  | 6 => some 19
  | 7 => some 20
  | 8 => some 21
  | 9 => some 22
  | 10 => some 23
  | 11 => some 4
  | _ => none
def my3cT (p : Pc) (n z m : Int) (g B0 : Nat) (WW : World) : Nat → Value
  | 0 => .pointer (some ⟨g, 2, none⟩)
  | 1 => .int .i64 p.t
  | 2 => .int .i64 n
  | 3 => .int .i64 z
  | 4 => .bool false
  | 5 => .bool false
  | 6 => agv (pcL p)
  | 7 => agv (pcL p)
  | 8 => agv (pcL (⟨p.r, p.b, m, p.l⟩ : Pc))
  | 9 => .bool false
  | 10 => .bool false
  | 11 => .bool false
  | _ => undef
set_option maxRecDepth 100000 in
set_option maxHeartbeats 4000000 in
theorem my3c_reg {ps : String} {Q : Exit → Act → World → Prop} {a0 : Act} {W0 : World} (sz : a0.tmps.size = 24) (p : Pc) (n z m : Int) (g B0 : Nat) (WW : World)
    (e2 : a0.eval (.tmp 2) = .pointer (some ⟨g, 0, none⟩)) (e1 : a0.eval (.tmp 1) = .int .i64 n)
    (l0 : B0 ≤ g) (hS0 : Below B0 WW W0 ∧ Box W0 g 23 (pcL p) ∧ True) (hw : IntKind.i64.wrap (n * 1000000) = z) (hd : decide (z ≤ p.t) = false) (c3 : ∀ W, Calls Try.prog 25 #[agv (pcL p)] W fun e w' => e = .returned (agv (pcL (⟨p.r, p.b, m, p.l⟩ : Pc))) ∧ Below W.heap.size W w') (hpq : p ≠ (⟨p.r, p.b, m, p.l⟩ : Pc)) 
    (hfin : ∀ (T : Nat → Value) w, T 11 = .bool false → Below B0 WW w ∧ Box w g 23 (pcL p) ∧ True → Q .normal ((((((((((((a0.put (some 13) (T 0)).put (some 14) (T 1)).put (some 15) (T 2)).put (some 16) (T 3)).put (some 17) (T 4)).put (some 18) (T 5)).put (some 19) (T 6)).put (some 20) (T 7)).put (some 21) (T 8)).put (some 22) (T 9)).put (some 23) (T 10)).put (some 4) (T 11)) w) :
    (Code.region 3 (my3c ps) true).wp Try.prog Q a0 W0 := by
  refine wp_region_dets (by kernel_rfl) 12 rfl my3cD ?_ (by decide) (my3cT p n z m g B0 WW) (fun D w => Below B0 WW w ∧ Box w g 23 (pcL p) ∧ True) (fun D _ => ⟨hS0.1.drew, hS0.2.1, trivial⟩) ?_ (by rfl) (fun w D _ hSw => hfin (my3cT p n z m g B0 WW) w rfl hSw)
  · intro jq t hj ht
    have : ∀ j, j < 12 → (my3cD j).all (· < 24) = true := by decide
    have := this jq hj
    rw [ht] at this
    rw [sz]
    simpa using this
  · intro iq o ho D a w hSw hDi hcl hs hel K hK
    have hin : iq < 12 := (Array.getElem?_eq_some_iff.1 ho).1
    match iq, hin, ho with
    | 0, _, ho =>
      obtain rfl := Option.some.inj (ho.symm.trans (my3c_0 ps))
      have u2 : a.eval (.tmp 2) = .pointer (some ⟨g, 0, none⟩) := (hel 2 (by decide)).trans e2
      exact op_valW (my3c_0 ps) rfl (v := .pointer (some ⟨g, 2, none⟩)) (by unfold my3cO0 execOp; simp only [u2]; first | (go_simp; done) | (go_simp; with_reducible rfl)) (hK w (fun D' _ _ => hSw))
    | 1, _, ho =>
      obtain rfl := Option.some.inj (ho.symm.trans (my3c_1 ps))
      have s0 : a.eval (.tmp 13) = .pointer (some ⟨g, 2, none⟩) := hs 0 13 (by rfl) rfl
      have hcl := Box.cell hSw.2.1 2 rfl
      exact op_valW (my3c_1 ps) rfl (v := .int .i64 p.t) (by unfold my3cO1 execOp; simp only [s0]; first | (go_simp; done) | (go_simp; with_reducible rfl)) (hK w (fun D' _ _ => hSw))
    | 2, _, ho =>
      obtain rfl := Option.some.inj (ho.symm.trans (my3c_2 ps))
      have u1 : a.eval (.tmp 1) = .int .i64 n := (hel 1 (by decide)).trans e1
      exact op_valW (my3c_2 ps) rfl (v := .int .i64 n) (by unfold my3cO2 execOp; simp only [u1]; first | (go_simp; done) | (go_simp; with_reducible rfl)) (hK w (fun D' _ _ => hSw))
    | 3, _, ho =>
      obtain rfl := Option.some.inj (ho.symm.trans (my3c_3 ps))
      have s2 : a.eval (.tmp 15) = .int .i64 n := hs 2 15 (by rfl) rfl
      have hw2 := hw
      exact op_valW (my3c_3 ps) rfl (v := .int .i64 z) (by unfold my3cO3 execOp; simp only [s2]; first | (go_simp; done) | (go_simp; with_reducible rfl)) (hK w (fun D' _ _ => hSw))
    | 4, _, ho =>
      obtain rfl := Option.some.inj (ho.symm.trans (my3c_4 ps))
      have s1 : a.eval (.tmp 14) = .int .i64 p.t := hs 1 14 (by rfl) rfl
      have s3 : a.eval (.tmp 16) = .int .i64 z := hs 3 16 (by rfl) rfl
      have hd2 := hd
      exact op_valW (my3c_4 ps) rfl (v := .bool false) (by unfold my3cO4 execOp; simp only [s1, s3]; first | (go_simp; done) | (go_simp; with_reducible rfl)) (hK w (fun D' _ _ => hSw))
    | 5, _, ho =>
      obtain rfl := Option.some.inj (ho.symm.trans (my3c_5 ps))
      have s4 : a.eval (.tmp 17) = .bool false := hs 4 17 (by rfl) rfl
      exact op_valW (my3c_5 ps) rfl (v := .bool false) (by unfold my3cO5 execOp; simp only [s4]; first | (go_simp; done) | (go_simp; with_reducible rfl)) (hK w (fun D' _ _ => hSw))
    | 6, _, ho =>
      obtain rfl := Option.some.inj (ho.symm.trans (my3c_6 ps))
      have s5 : a.eval (.tmp 18) = .bool false := hs 5 18 (by rfl) rfl
      have u2 : a.eval (.tmp 2) = .pointer (some ⟨g, 0, none⟩) := (hel 2 (by decide)).trans e2
      exact op_valW (my3c_6 ps) (by rw [wanted_of rfl (my3c_5 ps) rfl s5]; rfl) (v := agv (pcL p)) (run_loadS isS23 rfl u2 hSw.2.1) (hK w (fun D' _ _ => hSw))
    | 7, _, ho =>
      obtain rfl := Option.some.inj (ho.symm.trans (my3c_7 ps))
      have s5 : a.eval (.tmp 18) = .bool false := hs 5 18 (by rfl) rfl
      have u2 : a.eval (.tmp 2) = .pointer (some ⟨g, 0, none⟩) := (hel 2 (by decide)).trans e2
      exact op_valW (my3c_7 ps) (by rw [wanted_of rfl (my3c_5 ps) rfl s5]; rfl) (v := agv (pcL p)) (run_loadS isS23 rfl u2 hSw.2.1) (hK w (fun D' _ _ => hSw))
    | 8, _, ho =>
      obtain rfl := Option.some.inj (ho.symm.trans (my3c_8 ps))
      have s7 : a.eval (.tmp 20) = agv (pcL p) := hs 7 20 (by rfl) rfl
      have s5 : a.eval (.tmp 18) = .bool false := hs 5 18 (by rfl) rfl
      exact op_enterW (my3c_8 ps) (by rw [wanted_of rfl (my3c_5 ps) rfl s5]; rfl) (f := 25) (args := #[agv (pcL p)]) (by rw [run_call rfl enter25]; simp only [List.map_toArray, List.map_cons, List.map_nil, s7]; try rfl) ((c3 w).mono (fun e w' hh => ⟨_, hh.1, hK w' (fun D' _ _ => ⟨hSw.1.trans (hh.2.mono (Nat.le_trans l0 (Nat.le_of_lt hSw.2.1.lt))), hSw.2.1.later hh.2, trivial⟩)⟩))
    | 9, _, ho =>
      obtain rfl := Option.some.inj (ho.symm.trans (my3c_9 ps))
      have s6 : a.eval (.tmp 19) = agv (pcL p) := hs 6 19 (by rfl) rfl
      have s8 : a.eval (.tmp 21) = agv (pcL (⟨p.r, p.b, m, p.l⟩ : Pc)) := hs 8 21 (by rfl) rfl
      have s5 : a.eval (.tmp 18) = .bool false := hs 5 18 (by rfl) rfl
      exact op_valW (my3c_9 ps) (by rw [wanted_of rfl (my3c_5 ps) rfl s5]; rfl) (v := .bool false) (run_cmpS rfl s6 s8 (.inl rfl) (cmpN hpq)) (hK w (fun D' _ _ => hSw))
    | 10, _, ho =>
      obtain rfl := Option.some.inj (ho.symm.trans (my3c_10 ps))
      have s5 : a.eval (.tmp 18) = .bool false := hs 5 18 (by rfl) rfl
      have s9 : a.eval (.tmp 22) = .bool false := hs 9 22 (by rfl) rfl
      exact op_valW (my3c_10 ps) rfl (v := .bool false) (by unfold my3cO10 execOp; simp only [s5, s9]; first | (go_simp; done) | (go_simp; with_reducible rfl)) (hK w (fun D' _ _ => hSw))
    | 11, _, ho =>
      obtain rfl := Option.some.inj (ho.symm.trans (my3c_11 ps))
      have s10 : a.eval (.tmp 23) = .bool false := hs 10 23 (by rfl) rfl
      exact op_valW (my3c_11 ps) rfl (v := .bool false) (by unfold my3cO11 execOp; simp only [s10]; first | (go_simp; done) | (go_simp; with_reducible rfl)) (hK w (fun D' _ _ => hSw))
    | iq + 12, hin, _ => exact absurd hin (by omega)

set_option maxRecDepth 100000 in
set_option maxHeartbeats 4000000 in
theorem may_c (p : Pc) (n z m : Int) (c1 : ∀ W, Calls Try.prog 17 #[agv (pcL p)] W fun e w' => e = .returned (.int .i64 0) ∧ Below W.heap.size W w') (c2 : ∀ W, Calls Try.prog 27 #[.int .i64 n] W fun e w' => e = .returned (.bool true) ∧ w' = W) (hw : IntKind.i64.wrap (n * 1000000) = z) (hd : decide (z ≤ p.t) = false) (c3 : ∀ W, Calls Try.prog 25 #[agv (pcL p)] W fun e w' => e = .returned (agv (pcL (⟨p.r, p.b, m, p.l⟩ : Pc))) ∧ Below W.heap.size W w') (hpq : p ≠ (⟨p.r, p.b, m, p.l⟩ : Pc))  (w : World) : Calls Try.prog 15 #[agv (pcL p), .int .i64 n] w fun e w' => e = .returned (.bool false) ∧ Below w.heap.size w w' := by
  go_enter Try.func15, Try.ntmps15
  go_wp2_with (first | (refine wpS_box rfl rfl rfl ?_))
  intro X1 g HN
  have HX1 : Hid (Below w.heap.size w X1 ∧ Box X1 g 23 (pcL p) ∧ w.heap.size ≤ g ∧ True) := by
    have hb := Below.refl w.heap.size w
    obtain ⟨hg, hb2, bn⟩ := HN.out
    have hz := hb.size
    exact ⟨Below.on hb hb2, bn, by omega, trivial⟩
  clear HN 
  go_wp2_with (first | (refine wpS_load rfl rfl rfl (HX1.out.2.1) isS23 ?_) | fail)
  refine (c1 _).mono ?_
  rintro e w2 ⟨rfl, hB⟩
  have HX2 : Hid (Below w.heap.size w w2 ∧ Box w2 g 23 (pcL p) ∧ w.heap.size ≤ g ∧ True) := by
    obtain ⟨hb, b0, l0, _⟩ := HX1.out
    exact ⟨Below.on hb hB, b0.later hB, l0, trivial⟩
  clear hB HX1
  go_wp2_with fail
  refine (c2 _).mono ?_
  rintro e w' ⟨rfl, hq⟩
  obtain rfl := hq.symm
  clear hq
  go_upto_region 3 with fail
  refine my3c_reg (by rfl) p n z m g _ _  rfl rfl (HX2.out.2.2.1) ⟨HX2.out.1, HX2.out.2.1, trivial⟩ hw hd c3 hpq ?_
  intro T X3 hT hS
  simp only [Act.put, List.setIfInBounds_toArray, List.set_cons_zero, List.set_cons_succ]
  simp only [hT]
  have HX3 : Hid (Below w.heap.size w X3 ∧ Box X3 g 23 (pcL p) ∧ w.heap.size ≤ g ∧ True) := by
    obtain ⟨hb, b0, l0, _⟩ := HX2.out
    exact ⟨hS.1, hS.2.1, l0, trivial⟩
  clear hS hT HX2
  go_wp2_with fail
  go_ret
  exact ⟨rfl, HX3.out.1⟩

theorem may_is (p : Pc) (n : Int) {b : Bool} (hb : mayB p n = b) (w : World) : Calls Try.prog 15 #[agv (pcL p), .int .i64 n] w fun e w' => e = .returned (.bool b) ∧ Below w.heap.size w w' := by
  subst hb
  unfold mayB
  cases k : okB p with
  | false => rw [Bool.false_and]; exact may_no p n (fun W => chk_is p (by unfold chkE; rw [if_neg (by simp [k])]) W) w
  | true =>
  have c1 := fun W => chk_is p (r := 0) (by unfold chkE; rw [if_pos k]) W
  have ho := ok_out k
  rw [Bool.true_and]
  cases k2 : szB n with
  | false => rw [Bool.false_and]; exact may_sz p n c1 (fun W => sz_is n k2 W) w
  | true =>
  have c2 := fun W => sz_is n k2 W
  have hn := sz_out k2
  rw [Bool.true_and]
  have hw : IntKind.i64.wrap (n * 1000000) = n * 1000000 := by rw [IntKind.wrap_i64]; omega
  cases hd : decide (n * 1000000 ≤ p.t) with
  | true => rw [Bool.true_or]; exact may_a p n _ c1 c2 hw hd w
  | false =>
  rw [Bool.false_or]
  have c3 := fun W => full_is p (m := p.b * 1000000) (by have := ho.2.1; rw [IntKind.wrap_i64]; omega) W
  by_cases he : p.t = p.b * 1000000
  · rw [decide_eq_true he]
    have : (⟨p.r, p.b, p.b * 1000000, p.l⟩ : Pc) = p := by rw [← he]
    rw [this] at c3
    exact may_b p n _ c1 c2 hw hd c3 w
  · rw [decide_eq_false he]
    exact may_c p n _ _ c1 c2 hw hd c3 (fun e => he (congrArg Pc.t e)) w
end Go.Proofs.Ytifgdpokmgibgaa
