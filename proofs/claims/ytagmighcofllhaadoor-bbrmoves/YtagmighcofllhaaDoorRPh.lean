/- The contract of the document's phases. -/
import Derived.Test.YtagmighcofllhaaDoorRFul
import Derived.Test.YtagmighcofllhaaDoorGD
namespace Go.Proofs.YtagmighcofllhaaDoor
open Go.ChangeShapes Go.WideShapes Go.ChangeAt Go.RowKit
set_option linter.unusedVariables false
set_option linter.unusedSimpArgs false

open Fil
theorem enter39 (args : Array Value) (w : World) : (callFunc 39 args).run Tryd.prog w = .ok (.enter 39 args) w := by kernel_rfl
def ph1O0 (ps : String) : Oper := { dst := some 5, op := .fieldAddr 26 (.tmp 2) 10, type := 0, pos := ps, after := #[], guard := none }
def ph1O1 (ps : String) : Oper := { dst := some 6, op := .load 23 (.tmp 5), type := 23, pos := ps, after := #[{ on := 0, ground := .data }], guard := none }
def ph1O2 (ps : String) : Oper := { dst := some 7, op := .binOp .eql 23 (.tmp 6) (.const (.int .i64 2)) 23, type := 4, pos := ps, after := #[{ on := 1, ground := .data }], guard := none }
def ph1O3 (ps : String) : Oper := { dst := some 8, op := .move (.tmp 7), type := 4, pos := ps, after := #[{ on := 2, ground := .data }], guard := none }
def ph1O4 (ps : String) : Oper := { dst := some 9, op := .fieldAddr 28 (.tmp 3) 7, type := 0, pos := ps, after := #[{ on := 3, ground := .guard }], guard := some (3, true) }
def ph1O5 (ps : String) : Oper := { dst := some 10, op := .load 3 (.tmp 9), type := 3, pos := ps, after := #[{ on := 4, ground := .data }, { on := 3, ground := .guard }], guard := some (3, true) }
def ph1O6 (ps : String) : Oper := { dst := some 11, op := .load 26 (.tmp 2), type := 26, pos := ps, after := #[{ on := 3, ground := .guard }], guard := some (3, true) }
def ph1O7 (ps : String) : Oper := { dst := some 12, op := .call { callee := .value (.func 39), args := #[.tmp 11], argTypes := #[26] }, type := 3, pos := ps, after := #[{ on := 6, ground := .data }, { on := 3, ground := .chain }, { on := 3, ground := .guard }], guard := some (3, true) }
def ph1O8 (ps : String) : Oper := { dst := some 13, op := .binOp .leq 3 (.tmp 10) (.tmp 12) 3, type := 4, pos := ps, after := #[{ on := 5, ground := .data }, { on := 7, ground := .data }, { on := 3, ground := .guard }], guard := some (3, true) }
def ph1O9 (ps : String) : Oper := { dst := some 14, op := .pick (.tmp 8) (.tmp 13) (.const (.bool false)), type := 4, pos := ps, after := #[{ on := 3, ground := .data }, { on := 8, ground := .data }], guard := none }
def ph1 (ps : String) : Array Oper := #[ph1O0 ps, ph1O1 ps, ph1O2 ps, ph1O3 ps, ph1O4 ps, ph1O5 ps, ph1O6 ps, ph1O7 ps, ph1O8 ps, ph1O9 ps]
theorem ph1_0 (ps : String) : (ph1 ps)[0]? = some (ph1O0 ps) := rfl
theorem ph1_1 (ps : String) : (ph1 ps)[1]? = some (ph1O1 ps) := rfl
theorem ph1_2 (ps : String) : (ph1 ps)[2]? = some (ph1O2 ps) := rfl
theorem ph1_3 (ps : String) : (ph1 ps)[3]? = some (ph1O3 ps) := rfl
theorem ph1_4 (ps : String) : (ph1 ps)[4]? = some (ph1O4 ps) := rfl
theorem ph1_5 (ps : String) : (ph1 ps)[5]? = some (ph1O5 ps) := rfl
theorem ph1_6 (ps : String) : (ph1 ps)[6]? = some (ph1O6 ps) := rfl
theorem ph1_7 (ps : String) : (ph1 ps)[7]? = some (ph1O7 ps) := rfl
theorem ph1_8 (ps : String) : (ph1 ps)[8]? = some (ph1O8 ps) := rfl
theorem ph1_9 (ps : String) : (ph1 ps)[9]? = some (ph1O9 ps) := rfl
def ph1D : Nat → Option Tmp
  | 0 => some 5
  | 1 => some 6
  | 2 => some 7
  | 3 => some 8
  | 4 => some 9
  | 5 => some 10
  | 6 => some 11
  | 7 => some 12
  | 8 => some 13
  | 9 => some 14
  | _ => none
def ph1T (c : Cc) (s : Sm) (p q : Nat) (P : Int) (bt : Bool) : Nat → Value
  | 0 => .pointer (some ⟨p, 10, none⟩)
  | 1 => .int .i64 2
  | 2 => .bool true
  | 3 => .bool true
  | 4 => .pointer (some ⟨q, 7, none⟩)
  | 5 => .int .i64 s.fl
  | 6 => ccv c
  | 7 => .int .i64 P
  | 8 => .bool bt
  | 9 => .bool bt
  | _ => undef
set_option maxRecDepth 100000 in
set_option maxHeartbeats 4000000 in
theorem ph1_reg {ps : String} {Q : Exit → Act → World → Prop} {a0 : Act} {W0 W1 : World} (sz : a0.tmps.size = 41) (c : Cc) (s : Sm) (p q : Nat) (P : Int) (bt : Bool)
    (e2 : a0.eval (.tmp 2) = .pointer (some ⟨p, 0, none⟩)) (e3 : a0.eval (.tmp 3) = .pointer (some ⟨q, 0, none⟩))
    (hb : Box W1 p 26 (ccL c)) (hs : Box W1 q 28 (smL s)) (hW : W0 = W1) (hm : c.md = 2) (hP : decide (s.fl ≤ P) = bt) (c1 : ∀ W, Below W1.heap.size W1 W → Calls Tryd.prog 39 #[ccv c] W fun e w' => e = .returned (.int .i64 P) ∧ Below W.heap.size W w')
    (hfin : ∀ (T : Nat → Value) w, T 9 = .bool bt → Below W1.heap.size W1 w ∧ Box w p 26 (ccL c) ∧ Box w q 28 (smL s) → Q .normal ((((((((((a0.put (some 5) (T 0)).put (some 6) (T 1)).put (some 7) (T 2)).put (some 8) (T 3)).put (some 9) (T 4)).put (some 10) (T 5)).put (some 11) (T 6)).put (some 12) (T 7)).put (some 13) (T 8)).put (some 14) (T 9)) w) :
    (Code.region 1 (ph1 ps) true).wp Tryd.prog Q a0 W0 := by
  refine wp_region_dets (by kernel_rfl) 10 rfl ph1D ?_ (by decide) (ph1T c s p q P bt) (fun D w => Below W1.heap.size W1 w ∧ Box w p 26 (ccL c) ∧ Box w q 28 (smL s)) (fun D _ => (by subst hW; exact ⟨(Below.refl _ _).drew, hb.drew, hs.drew⟩)) ?_ (by rfl) (fun w D _ hSw => hfin (ph1T c s p q P bt) w rfl hSw)
  · intro jq t hj ht
    have : ∀ j, j < 10 → (ph1D j).all (· < 41) = true := by decide
    have := this jq hj
    rw [ht] at this
    rw [sz]
    simpa using this
  · intro iq o ho D a w hSw hDi hcl hs hel K hK
    have hin : iq < 10 := (Array.getElem?_eq_some_iff.1 ho).1
    match iq, hin, ho with
    | 0, _, ho =>
      obtain rfl := Option.some.inj (ho.symm.trans (ph1_0 ps))
      have u2 : a.eval (.tmp 2) = .pointer (some ⟨p, 0, none⟩) := (hel 2 (by decide)).trans e2
      exact op_valW (ph1_0 ps) rfl (v := .pointer (some ⟨p, 10, none⟩)) (by unfold ph1O0 execOp; simp only [u2]; first | (go_simp; done) | (go_simp; with_reducible rfl)) (hK w (fun D' _ _ => hSw))
    | 1, _, ho =>
      obtain rfl := Option.some.inj (ho.symm.trans (ph1_1 ps))
      have s0 : a.eval (.tmp 5) = .pointer (some ⟨p, 10, none⟩) := hs 0 5 (by rfl) rfl
      have hcl : w.cell? ⟨p, 10, none⟩ = some (.int .i64 2) := by
        have := Box.cell hSw.2.1 10 rfl
        rw [hm] at this
        exact this
      exact op_valW (ph1_1 ps) rfl (v := .int .i64 2) (by unfold ph1O1 execOp; simp only [s0]; first | (go_simp; done) | (go_simp; with_reducible rfl)) (hK w (fun D' _ _ => hSw))
    | 2, _, ho =>
      obtain rfl := Option.some.inj (ho.symm.trans (ph1_2 ps))
      have s1 : a.eval (.tmp 6) = .int .i64 2 := hs 1 6 (by rfl) rfl
      exact op_valW (ph1_2 ps) rfl (v := .bool true) (by unfold ph1O2 execOp; simp only [s1]; first | (go_simp; done) | (go_simp; with_reducible rfl)) (hK w (fun D' _ _ => hSw))
    | 3, _, ho =>
      obtain rfl := Option.some.inj (ho.symm.trans (ph1_3 ps))
      have s2 : a.eval (.tmp 7) = .bool true := hs 2 7 (by rfl) rfl
      exact op_valW (ph1_3 ps) rfl (v := .bool true) (by unfold ph1O3 execOp; simp only [s2]; first | (go_simp; done) | (go_simp; with_reducible rfl)) (hK w (fun D' _ _ => hSw))
    | 4, _, ho =>
      obtain rfl := Option.some.inj (ho.symm.trans (ph1_4 ps))
      have s3 : a.eval (.tmp 8) = .bool true := hs 3 8 (by rfl) rfl
      have u3 : a.eval (.tmp 3) = .pointer (some ⟨q, 0, none⟩) := (hel 3 (by decide)).trans e3
      exact op_valW (ph1_4 ps) (by rw [wanted_of rfl (ph1_3 ps) rfl s3]; rfl) (v := .pointer (some ⟨q, 7, none⟩)) (by unfold ph1O4 execOp; simp only [u3]; first | (go_simp; done) | (go_simp; with_reducible rfl)) (hK w (fun D' _ _ => hSw))
    | 5, _, ho =>
      obtain rfl := Option.some.inj (ho.symm.trans (ph1_5 ps))
      have s4 : a.eval (.tmp 9) = .pointer (some ⟨q, 7, none⟩) := hs 4 9 (by rfl) rfl
      have s3 : a.eval (.tmp 8) = .bool true := hs 3 8 (by rfl) rfl
      have hcl : w.cell? ⟨q, 7, none⟩ = some (.int .i64 s.fl) := Box.cell hSw.2.2 7 rfl
      exact op_valW (ph1_5 ps) (by rw [wanted_of rfl (ph1_3 ps) rfl s3]; rfl) (v := .int .i64 s.fl) (by unfold ph1O5 execOp; simp only [s4]; first | (go_simp; done) | (go_simp; with_reducible rfl)) (hK w (fun D' _ _ => hSw))
    | 6, _, ho =>
      obtain rfl := Option.some.inj (ho.symm.trans (ph1_6 ps))
      have s3 : a.eval (.tmp 8) = .bool true := hs 3 8 (by rfl) rfl
      have u2 : a.eval (.tmp 2) = .pointer (some ⟨p, 0, none⟩) := (hel 2 (by decide)).trans e2
      exact op_valW (ph1_6 ps) (by rw [wanted_of rfl (ph1_3 ps) rfl s3]; rfl) (v := ccv c) (run_loadC isC26 rfl u2 hSw.2.1) (hK w (fun D' _ _ => hSw))
    | 7, _, ho =>
      obtain rfl := Option.some.inj (ho.symm.trans (ph1_7 ps))
      have s6 : a.eval (.tmp 11) = ccv c := hs 6 11 (by rfl) rfl
      have s3 : a.eval (.tmp 8) = .bool true := hs 3 8 (by rfl) rfl
      exact op_enterW (ph1_7 ps) (by rw [wanted_of rfl (ph1_3 ps) rfl s3]; rfl) (f := 39) (args := #[ccv c]) (by rw [run_call rfl enter39]; simp only [List.map_toArray, List.map_cons, List.map_nil, s6]; try rfl) ((c1 w hSw.1).mono (fun e w' hh => ⟨_, hh.1, hK w' (fun D' _ _ => ⟨Below.on hSw.1 hh.2, hSw.2.1.later hh.2, hSw.2.2.later hh.2⟩)⟩))
    | 8, _, ho =>
      obtain rfl := Option.some.inj (ho.symm.trans (ph1_8 ps))
      have s5 : a.eval (.tmp 10) = .int .i64 s.fl := hs 5 10 (by rfl) rfl
      have s7 : a.eval (.tmp 12) = .int .i64 P := hs 7 12 (by rfl) rfl
      have s3 : a.eval (.tmp 8) = .bool true := hs 3 8 (by rfl) rfl
      have hcl : decide (s.fl ≤ P) = bt := hP
      exact op_valW (ph1_8 ps) (by rw [wanted_of rfl (ph1_3 ps) rfl s3]; rfl) (v := .bool bt) (by unfold ph1O8 execOp; simp only [s5, s7]; first | (go_simp; done) | (go_simp; with_reducible rfl)) (hK w (fun D' _ _ => hSw))
    | 9, _, ho =>
      obtain rfl := Option.some.inj (ho.symm.trans (ph1_9 ps))
      have s3 : a.eval (.tmp 8) = .bool true := hs 3 8 (by rfl) rfl
      have s8 : a.eval (.tmp 13) = .bool bt := hs 8 13 (by rfl) rfl
      exact op_valW (ph1_9 ps) rfl (v := .bool bt) (by unfold ph1O9 execOp; simp only [s3, s8]; first | (go_simp; done) | (go_simp; with_reducible rfl)) (hK w (fun D' _ _ => hSw))
    | iq + 10, hin, _ => exact absurd hin (by omega)

set_option maxRecDepth 100000 in
set_option maxHeartbeats 4000000 in
theorem rph_2t (w : World) (c : Cc) (s : Sm) (P : Int) (HL : Hid (c.md = 2)) (hP : Hid (decide (s.fl ≤ P) = true)) (c1 : ∀ W, Below w.heap.size w W → Calls Tryd.prog 39 #[ccv c] W fun e w' => e = .returned (.int .i64 P) ∧ Below W.heap.size W w') (c2 : ∀ W, Below w.heap.size w W → Calls Tryd.prog 64 #[ccv c, .int .i64 s.nw] W fun e w' => e = .returned (ccv (cruE c s.nw)) ∧ Below W.heap.size W w')  : Calls Tryd.prog 37 #[ccv c, agv (smL s)] w fun e w' => e = .returned (ccv (cruE c s.nw)) ∧ Below w.heap.size w w' := by
  go_enter Tryd.func37, Tryd.ntmps37
  go_wp2_with (first | (refine wpC_box rfl rfl rfl ?_))
  intro X1 p HN
  have HX1 : Hid (Below w.heap.size w X1 ∧ Box X1 p 26 (ccL c) ∧ w.heap.size ≤ p ∧ True) := by
    have hb := Below.refl w.heap.size w
    obtain ⟨hg, hb2, bn⟩ := HN.out
    have hz := hb.size
    exact ⟨Below.on hb hb2, bn, by omega, trivial⟩
  clear HN 
  go_wp2_with (first | (refine wpS_box rfl rfl rfl ?_))
  intro X2 q HN
  have HX2 : Hid (Below w.heap.size w X2 ∧ Box X2 p 26 (ccL c) ∧ Box X2 q 28 (smL s) ∧ w.heap.size ≤ p ∧ p < q ∧ True) := by
    obtain ⟨hb, b0, l0, _⟩ := HX1.out
    obtain ⟨hg, hb2, bn⟩ := HN.out
    have z0 := b0.lt
    exact ⟨Below.on hb hb2, b0.later hb2, bn, l0, by omega, trivial⟩
  clear HN HX1
  go_wp2_with (first | (refine wpC_alloc rfl rfl zero26 ?_))
  intro X3 r HN
  have HX3 : Hid (Below w.heap.size w X3 ∧ Box X3 p 26 (ccL c) ∧ Box X3 q 28 (smL s) ∧ Box X3 r 26 (ccL zC) ∧ w.heap.size ≤ p ∧ p < q ∧ q < r ∧ True) := by
    obtain ⟨hb, b0, b1, l0, l1, _⟩ := HX2.out
    obtain ⟨hg, hb2, bn⟩ := HN.out
    have z0 := b0.lt
    have z1 := b1.lt
    exact ⟨Below.on hb hb2, b0.later hb2, b1.later hb2, bn, l0, l1, by omega, trivial⟩
  clear HN HX2
  go_upto_region 1 with fail
  refine ph1_reg (by rfl) c s p q P true rfl rfl (HX3.out.2.1) (HX3.out.2.2.1) rfl HL.out hP.out (fun U hU => c1 U (Below.on (HX3.out.1) hU)) ?_
  intro T X4 hT hS
  simp only [Act.put, List.setIfInBounds_toArray, List.set_cons_zero, List.set_cons_succ]
  simp only [hT]
  have hbl := hS.1
  clear hS
  have HX4 : Hid (Below w.heap.size w X4 ∧ Box X4 p 26 (ccL c) ∧ Box X4 q 28 (smL s) ∧ Box X4 r 26 (ccL zC) ∧ w.heap.size ≤ p ∧ p < q ∧ q < r ∧ True) := by
    obtain ⟨hb, b0, b1, b2, l0, l1, l2, _⟩ := HX3.out
    exact ⟨Below.on hb hbl, b0.later hbl, b1.later hbl, b2.later hbl, l0, l1, l2, trivial⟩
  clear hbl hT c1 hP HX3
  have j0 := Box.cell (HX4.out.2.2.1) 0 rfl
  go_wp2_with (first | (refine wpC_load rfl isC26 rfl rfl (HX4.out.2.1) ?_) | fail)
  refine (c2 _ (HX4.out.1)).mono ?_
  rintro e w5 ⟨rfl, hB⟩
  have HX5 : Hid (Below w.heap.size w w5 ∧ Box w5 p 26 (ccL c) ∧ Box w5 q 28 (smL s) ∧ Box w5 r 26 (ccL zC) ∧ w.heap.size ≤ p ∧ p < q ∧ q < r ∧ True) := by
    obtain ⟨hb, b0, b1, b2, l0, l1, l2, _⟩ := HX4.out
    exact ⟨Below.on hb hB, b0.later hB, b1.later hB, b2.later hB, l0, l1, l2, trivial⟩
  clear hB HX4
  clear j0 c2
  go_wp2_with (first | (refine wpC_store rfl isC26 rfl rfl rfl rfl (HX5.out.2.2.2.1) rfl ?_))
  intro X6 HN
  have HX6 : Hid (Below w.heap.size w X6 ∧ Box X6 p 26 (ccL c) ∧ Box X6 q 28 (smL s) ∧ Box X6 r 26 (ccL (cruE c s.nw)) ∧ w.heap.size ≤ p ∧ p < q ∧ q < r ∧ True) := by
    obtain ⟨hb, b0, b1, b2, l0, l1, l2, _⟩ := HX5.out
    obtain ⟨st, bn⟩ := HN.out
    exact ⟨st.below _ _ (by omega) hb, b0.sto st (by omega), b1.sto st (by omega), bn, l0, l1, l2, trivial⟩
  clear HN HX5
  go_wp2_with fail
  refine bodyPost_ret (resC1 isC26 rfl _ _ rfl (HX6.out.2.2.2.1)) rfl ?_
  exact ⟨rfl, HX6.out.1⟩

set_option maxRecDepth 100000 in
set_option maxHeartbeats 4000000 in
theorem rph_2f (w : World) (c : Cc) (s : Sm) (P : Int) (HL : Hid (c.md = 2)) (hP : Hid (decide (s.fl ≤ P) = false)) (c1 : ∀ W, Below w.heap.size w W → Calls Tryd.prog 39 #[ccv c] W fun e w' => e = .returned (.int .i64 P) ∧ Below W.heap.size W w')  : Calls Tryd.prog 37 #[ccv c, agv (smL s)] w fun e w' => e = .returned (ccv c) ∧ Below w.heap.size w w' := by
  go_enter Tryd.func37, Tryd.ntmps37
  go_wp2_with (first | (refine wpC_box rfl rfl rfl ?_))
  intro X1 p HN
  have HX1 : Hid (Below w.heap.size w X1 ∧ Box X1 p 26 (ccL c) ∧ w.heap.size ≤ p ∧ True) := by
    have hb := Below.refl w.heap.size w
    obtain ⟨hg, hb2, bn⟩ := HN.out
    have hz := hb.size
    exact ⟨Below.on hb hb2, bn, by omega, trivial⟩
  clear HN 
  go_wp2_with (first | (refine wpS_box rfl rfl rfl ?_))
  intro X2 q HN
  have HX2 : Hid (Below w.heap.size w X2 ∧ Box X2 p 26 (ccL c) ∧ Box X2 q 28 (smL s) ∧ w.heap.size ≤ p ∧ p < q ∧ True) := by
    obtain ⟨hb, b0, l0, _⟩ := HX1.out
    obtain ⟨hg, hb2, bn⟩ := HN.out
    have z0 := b0.lt
    exact ⟨Below.on hb hb2, b0.later hb2, bn, l0, by omega, trivial⟩
  clear HN HX1
  go_wp2_with (first | (refine wpC_alloc rfl rfl zero26 ?_))
  intro X3 r HN
  have HX3 : Hid (Below w.heap.size w X3 ∧ Box X3 p 26 (ccL c) ∧ Box X3 q 28 (smL s) ∧ Box X3 r 26 (ccL zC) ∧ w.heap.size ≤ p ∧ p < q ∧ q < r ∧ True) := by
    obtain ⟨hb, b0, b1, l0, l1, _⟩ := HX2.out
    obtain ⟨hg, hb2, bn⟩ := HN.out
    have z0 := b0.lt
    have z1 := b1.lt
    exact ⟨Below.on hb hb2, b0.later hb2, b1.later hb2, bn, l0, l1, by omega, trivial⟩
  clear HN HX2
  go_upto_region 1 with fail
  refine ph1_reg (by rfl) c s p q P false rfl rfl (HX3.out.2.1) (HX3.out.2.2.1) rfl HL.out hP.out (fun U hU => c1 U (Below.on (HX3.out.1) hU)) ?_
  intro T X4 hT hS
  simp only [Act.put, List.setIfInBounds_toArray, List.set_cons_zero, List.set_cons_succ]
  simp only [hT]
  have hbl := hS.1
  clear hS
  have HX4 : Hid (Below w.heap.size w X4 ∧ Box X4 p 26 (ccL c) ∧ Box X4 q 28 (smL s) ∧ Box X4 r 26 (ccL zC) ∧ w.heap.size ≤ p ∧ p < q ∧ q < r ∧ True) := by
    obtain ⟨hb, b0, b1, b2, l0, l1, l2, _⟩ := HX3.out
    exact ⟨Below.on hb hbl, b0.later hbl, b1.later hbl, b2.later hbl, l0, l1, l2, trivial⟩
  clear hbl hT c1 hP HX3
  have k10 : X4.cell? ⟨p, 10, none⟩ = some (.int .i64 2) := by
    have := Box.cell (HX4.out.2.1) 10 rfl
    rw [HL.out] at this
    exact this
  clear HL
  go_upto_region 6 with fail
  clear k10
  go_wp2_with (first | (refine wpC_load rfl isC26 rfl rfl (HX4.out.2.1) ?_) | (refine wpC_store rfl isC26 rfl rfl rfl rfl (HX4.out.2.2.2.1) rfl ?_))
  intro X5 HN
  have HX5 : Hid (Below w.heap.size w X5 ∧ Box X5 p 26 (ccL c) ∧ Box X5 q 28 (smL s) ∧ Box X5 r 26 (ccL c) ∧ w.heap.size ≤ p ∧ p < q ∧ q < r ∧ True) := by
    obtain ⟨hb, b0, b1, b2, l0, l1, l2, _⟩ := HX4.out
    obtain ⟨st, bn⟩ := HN.out
    exact ⟨st.below _ _ (by omega) hb, b0.sto st (by omega), b1.sto st (by omega), bn, l0, l1, l2, trivial⟩
  clear HN HX4
  go_wp2_with fail
  refine bodyPost_ret (resC1 isC26 rfl _ _ rfl (HX5.out.2.2.2.1)) rfl ?_
  exact ⟨rfl, HX5.out.1⟩

set_option maxRecDepth 100000 in
set_option maxHeartbeats 4000000 in
theorem rph_1 (w : World) (c : Cc) (s : Sm) (HL : Hid (c.md = 1)) : Calls Tryd.prog 37 #[ccv c, agv (smL s)] w fun e w' => e = .returned (ccv c) ∧ Below w.heap.size w w' := by
  go_enter Tryd.func37, Tryd.ntmps37
  go_wp2_with (first | (refine wpC_box rfl rfl rfl ?_))
  intro X1 p HN
  have HX1 : Hid (Below w.heap.size w X1 ∧ Box X1 p 26 (ccL c) ∧ w.heap.size ≤ p ∧ True) := by
    have hb := Below.refl w.heap.size w
    obtain ⟨hg, hb2, bn⟩ := HN.out
    have hz := hb.size
    exact ⟨Below.on hb hb2, bn, by omega, trivial⟩
  clear HN 
  go_wp2_with (first | (refine wpS_box rfl rfl rfl ?_))
  intro X2 q HN
  have HX2 : Hid (Below w.heap.size w X2 ∧ Box X2 p 26 (ccL c) ∧ Box X2 q 28 (smL s) ∧ w.heap.size ≤ p ∧ p < q ∧ True) := by
    obtain ⟨hb, b0, l0, _⟩ := HX1.out
    obtain ⟨hg, hb2, bn⟩ := HN.out
    have z0 := b0.lt
    exact ⟨Below.on hb hb2, b0.later hb2, bn, l0, by omega, trivial⟩
  clear HN HX1
  go_wp2_with (first | (refine wpC_alloc rfl rfl zero26 ?_))
  intro X3 r HN
  have HX3 : Hid (Below w.heap.size w X3 ∧ Box X3 p 26 (ccL c) ∧ Box X3 q 28 (smL s) ∧ Box X3 r 26 (ccL zC) ∧ w.heap.size ≤ p ∧ p < q ∧ q < r ∧ True) := by
    obtain ⟨hb, b0, b1, l0, l1, _⟩ := HX2.out
    obtain ⟨hg, hb2, bn⟩ := HN.out
    have z0 := b0.lt
    have z1 := b1.lt
    exact ⟨Below.on hb hb2, b0.later hb2, b1.later hb2, bn, l0, l1, by omega, trivial⟩
  clear HN HX2
  have k10 : X3.cell? ⟨p, 10, none⟩ = some (.int .i64 1) := by
    have := Box.cell (HX3.out.2.1) 10 rfl
    rw [HL.out] at this
    exact this
  go_upto_region 1 with fail
  go_quiet (fail)
  obtain ⟨X4, hX⟩ : ∃ V, X3.drewN nq = V := ⟨_, rfl⟩
  try rw [hX]
  have HX4 : Hid (Below w.heap.size w X4 ∧ Box X4 p 26 (ccL c) ∧ Box X4 q 28 (smL s) ∧ Box X4 r 26 (ccL zC) ∧ w.heap.size ≤ p ∧ p < q ∧ q < r ∧ True) := by
    obtain ⟨hb, b0, b1, b2, l0, l1, l2, _⟩ := HX3.out
    have hB := below_drewN (Below.refl X3.heap.size X3) nq
    rw [hX] at hB
    exact ⟨Below.on hb hB, b0.later hB, b1.later hB, b2.later hB, l0, l1, l2, trivial⟩
  clear hX HX3
  clear k10
  have k10 : X4.cell? ⟨p, 10, none⟩ = some (.int .i64 1) := by
    have := Box.cell (HX4.out.2.1) 10 rfl
    rw [HL.out] at this
    exact this
  clear HL
  go_upto_region 6 with fail
  clear k10
  go_wp2_with (first | (refine wpC_load rfl isC26 rfl rfl (HX4.out.2.1) ?_) | (refine wpC_store rfl isC26 rfl rfl rfl rfl (HX4.out.2.2.2.1) rfl ?_))
  intro X5 HN
  have HX5 : Hid (Below w.heap.size w X5 ∧ Box X5 p 26 (ccL c) ∧ Box X5 q 28 (smL s) ∧ Box X5 r 26 (ccL c) ∧ w.heap.size ≤ p ∧ p < q ∧ q < r ∧ True) := by
    obtain ⟨hb, b0, b1, b2, l0, l1, l2, _⟩ := HX4.out
    obtain ⟨st, bn⟩ := HN.out
    exact ⟨st.below _ _ (by omega) hb, b0.sto st (by omega), b1.sto st (by omega), bn, l0, l1, l2, trivial⟩
  clear HN HX4
  go_wp2_with fail
  refine bodyPost_ret (resC1 isC26 rfl _ _ rfl (HX5.out.2.2.2.1)) rfl ?_
  exact ⟨rfl, HX5.out.1⟩

set_option maxRecDepth 100000 in
set_option maxHeartbeats 4000000 in
theorem rph_4 (w : World) (c : Cc) (s : Sm) (HL : Hid (c.md = 4)) : Calls Tryd.prog 37 #[ccv c, agv (smL s)] w fun e w' => e = .returned (ccv c) ∧ Below w.heap.size w w' := by
  go_enter Tryd.func37, Tryd.ntmps37
  go_wp2_with (first | (refine wpC_box rfl rfl rfl ?_))
  intro X1 p HN
  have HX1 : Hid (Below w.heap.size w X1 ∧ Box X1 p 26 (ccL c) ∧ w.heap.size ≤ p ∧ True) := by
    have hb := Below.refl w.heap.size w
    obtain ⟨hg, hb2, bn⟩ := HN.out
    have hz := hb.size
    exact ⟨Below.on hb hb2, bn, by omega, trivial⟩
  clear HN 
  go_wp2_with (first | (refine wpS_box rfl rfl rfl ?_))
  intro X2 q HN
  have HX2 : Hid (Below w.heap.size w X2 ∧ Box X2 p 26 (ccL c) ∧ Box X2 q 28 (smL s) ∧ w.heap.size ≤ p ∧ p < q ∧ True) := by
    obtain ⟨hb, b0, l0, _⟩ := HX1.out
    obtain ⟨hg, hb2, bn⟩ := HN.out
    have z0 := b0.lt
    exact ⟨Below.on hb hb2, b0.later hb2, bn, l0, by omega, trivial⟩
  clear HN HX1
  go_wp2_with (first | (refine wpC_alloc rfl rfl zero26 ?_))
  intro X3 r HN
  have HX3 : Hid (Below w.heap.size w X3 ∧ Box X3 p 26 (ccL c) ∧ Box X3 q 28 (smL s) ∧ Box X3 r 26 (ccL zC) ∧ w.heap.size ≤ p ∧ p < q ∧ q < r ∧ True) := by
    obtain ⟨hb, b0, b1, l0, l1, _⟩ := HX2.out
    obtain ⟨hg, hb2, bn⟩ := HN.out
    have z0 := b0.lt
    have z1 := b1.lt
    exact ⟨Below.on hb hb2, b0.later hb2, b1.later hb2, bn, l0, l1, by omega, trivial⟩
  clear HN HX2
  have k10 : X3.cell? ⟨p, 10, none⟩ = some (.int .i64 4) := by
    have := Box.cell (HX3.out.2.1) 10 rfl
    rw [HL.out] at this
    exact this
  go_upto_region 1 with fail
  go_quiet (fail)
  obtain ⟨X4, hX⟩ : ∃ V, X3.drewN nq = V := ⟨_, rfl⟩
  try rw [hX]
  have HX4 : Hid (Below w.heap.size w X4 ∧ Box X4 p 26 (ccL c) ∧ Box X4 q 28 (smL s) ∧ Box X4 r 26 (ccL zC) ∧ w.heap.size ≤ p ∧ p < q ∧ q < r ∧ True) := by
    obtain ⟨hb, b0, b1, b2, l0, l1, l2, _⟩ := HX3.out
    have hB := below_drewN (Below.refl X3.heap.size X3) nq
    rw [hX] at hB
    exact ⟨Below.on hb hB, b0.later hB, b1.later hB, b2.later hB, l0, l1, l2, trivial⟩
  clear hX HX3
  clear k10
  have k10 : X4.cell? ⟨p, 10, none⟩ = some (.int .i64 4) := by
    have := Box.cell (HX4.out.2.1) 10 rfl
    rw [HL.out] at this
    exact this
  clear HL
  go_upto_region 6 with fail
  clear k10
  go_wp2_with (first | (refine wpC_load rfl isC26 rfl rfl (HX4.out.2.1) ?_) | (refine wpC_store rfl isC26 rfl rfl rfl rfl (HX4.out.2.2.2.1) rfl ?_))
  intro X5 HN
  have HX5 : Hid (Below w.heap.size w X5 ∧ Box X5 p 26 (ccL c) ∧ Box X5 q 28 (smL s) ∧ Box X5 r 26 (ccL c) ∧ w.heap.size ≤ p ∧ p < q ∧ q < r ∧ True) := by
    obtain ⟨hb, b0, b1, b2, l0, l1, l2, _⟩ := HX4.out
    obtain ⟨st, bn⟩ := HN.out
    exact ⟨st.below _ _ (by omega) hb, b0.sto st (by omega), b1.sto st (by omega), bn, l0, l1, l2, trivial⟩
  clear HN HX4
  go_wp2_with fail
  refine bodyPost_ret (resC1 isC26 rfl _ _ rfl (HX5.out.2.2.2.1)) rfl ?_
  exact ⟨rfl, HX5.out.1⟩

set_option maxRecDepth 100000 in
set_option maxHeartbeats 4000000 in
theorem rph_3y (w : World) (c : Cc) (s : Sm) (q_ : Int) (HL : Hid (c.md = 3)) (wr : IntKind.i64.wrap (s.nw - c.pa) = s.nw - c.pa) (o1 : decide (c.mr < s.nw - c.pa) = true) (p1 : IntKind.i64.wrap (c.ph + 1) = c.ph + 1) (p2 : (c.ph + 1).tmod 8 = q_) (p3 : IntKind.i64.wrap q_ = q_)  : Calls Tryd.prog 37 #[ccv c, agv (smL s)] w fun e w' => e = .returned (ccv { c with ph := q_, pa := s.nw }) ∧ Below w.heap.size w w' := by
  go_enter Tryd.func37, Tryd.ntmps37
  go_wp2_with (first | (refine wpC_box rfl rfl rfl ?_))
  intro X1 p HN
  have HX1 : Hid (Below w.heap.size w X1 ∧ Box X1 p 26 (ccL c) ∧ w.heap.size ≤ p ∧ True) := by
    have hb := Below.refl w.heap.size w
    obtain ⟨hg, hb2, bn⟩ := HN.out
    have hz := hb.size
    exact ⟨Below.on hb hb2, bn, by omega, trivial⟩
  clear HN 
  go_wp2_with (first | (refine wpS_box rfl rfl rfl ?_))
  intro X2 q HN
  have HX2 : Hid (Below w.heap.size w X2 ∧ Box X2 p 26 (ccL c) ∧ Box X2 q 28 (smL s) ∧ w.heap.size ≤ p ∧ p < q ∧ True) := by
    obtain ⟨hb, b0, l0, _⟩ := HX1.out
    obtain ⟨hg, hb2, bn⟩ := HN.out
    have z0 := b0.lt
    exact ⟨Below.on hb hb2, b0.later hb2, bn, l0, by omega, trivial⟩
  clear HN HX1
  go_wp2_with (first | (refine wpC_alloc rfl rfl zero26 ?_))
  intro X3 r HN
  have HX3 : Hid (Below w.heap.size w X3 ∧ Box X3 p 26 (ccL c) ∧ Box X3 q 28 (smL s) ∧ Box X3 r 26 (ccL zC) ∧ w.heap.size ≤ p ∧ p < q ∧ q < r ∧ True) := by
    obtain ⟨hb, b0, b1, l0, l1, _⟩ := HX2.out
    obtain ⟨hg, hb2, bn⟩ := HN.out
    have z0 := b0.lt
    have z1 := b1.lt
    exact ⟨Below.on hb hb2, b0.later hb2, b1.later hb2, bn, l0, l1, by omega, trivial⟩
  clear HN HX2
  have k10 : X3.cell? ⟨p, 10, none⟩ = some (.int .i64 3) := by
    have := Box.cell (HX3.out.2.1) 10 rfl
    rw [HL.out] at this
    exact this
  go_upto_region 1 with fail
  go_quiet (fail)
  obtain ⟨X4, hX⟩ : ∃ V, X3.drewN nq = V := ⟨_, rfl⟩
  try rw [hX]
  have HX4 : Hid (Below w.heap.size w X4 ∧ Box X4 p 26 (ccL c) ∧ Box X4 q 28 (smL s) ∧ Box X4 r 26 (ccL zC) ∧ w.heap.size ≤ p ∧ p < q ∧ q < r ∧ True) := by
    obtain ⟨hb, b0, b1, b2, l0, l1, l2, _⟩ := HX3.out
    have hB := below_drewN (Below.refl X3.heap.size X3) nq
    rw [hX] at hB
    exact ⟨Below.on hb hB, b0.later hB, b1.later hB, b2.later hB, l0, l1, l2, trivial⟩
  clear hX HX3
  clear k10
  have k10 : X4.cell? ⟨p, 10, none⟩ = some (.int .i64 3) := by
    have := Box.cell (HX4.out.2.1) 10 rfl
    rw [HL.out] at this
    exact this
  clear HL
  have k19 := Box.cell (HX4.out.2.1) 19 rfl
  have k12 := Box.cell (HX4.out.2.1) 12 rfl
  have j0 := Box.cell (HX4.out.2.2.1) 0 rfl
  have k18 := Box.cell (HX4.out.2.1) 18 rfl
  have fz := fun i => Box.frozen (HX4.out.2.1) i
  go_upto_region 6 with fail
  obtain ⟨X5, hX⟩ : ∃ X, ((X4.setCell ⟨p, 18, none⟩ (.int .i64 q_)).setCell ⟨p, 19, none⟩ (.int .i64 s.nw)) = X := ⟨_, rfl⟩
  try rw [hX]
  have HX5 : Hid (Below w.heap.size w X5 ∧ Box X5 p 26 (ccL { c with ph := q_, pa := s.nw }) ∧ Box X5 q 28 (smL s) ∧ Box X5 r 26 (ccL zC) ∧ w.heap.size ≤ p ∧ p < q ∧ q < r ∧ True) := by
    obtain ⟨hb, b0, b1, b2, l0, l1, l2, _⟩ := HX4.out
    have st : Sto X4 p X5 := by rw [← hX]; exact (((Sto.refl X4 p).set 18 _).set 19 _)
    have bn : Box X5 p 26 (ccL { c with ph := q_, pa := s.nw }) := by rw [← hX]; exact box_to ((b0.set 18 _).set 19 _) rfl
    exact ⟨st.below _ _ (by omega) hb, bn, b1.sto st (by omega), b2.sto st (by omega), l0, l1, l2, trivial⟩
  clear hX HX4
  clear k18 fz k10 k19 k12 j0
  go_wp2_with (first | (refine wpC_load rfl isC26 rfl rfl (HX5.out.2.1) ?_) | (refine wpC_store rfl isC26 rfl rfl rfl rfl (HX5.out.2.2.2.1) rfl ?_))
  intro X6 HN
  have HX6 : Hid (Below w.heap.size w X6 ∧ Box X6 p 26 (ccL { c with ph := q_, pa := s.nw }) ∧ Box X6 q 28 (smL s) ∧ Box X6 r 26 (ccL { c with ph := q_, pa := s.nw }) ∧ w.heap.size ≤ p ∧ p < q ∧ q < r ∧ True) := by
    obtain ⟨hb, b0, b1, b2, l0, l1, l2, _⟩ := HX5.out
    obtain ⟨st, bn⟩ := HN.out
    exact ⟨st.below _ _ (by omega) hb, b0.sto st (by omega), b1.sto st (by omega), bn, l0, l1, l2, trivial⟩
  clear HN HX5
  go_wp2_with fail
  refine bodyPost_ret (resC1 isC26 rfl _ _ rfl (HX6.out.2.2.2.1)) rfl ?_
  exact ⟨rfl, HX6.out.1⟩

set_option maxRecDepth 100000 in
set_option maxHeartbeats 4000000 in
theorem rph_3n (w : World) (c : Cc) (s : Sm) (HL : Hid (c.md = 3)) (wr : IntKind.i64.wrap (s.nw - c.pa) = s.nw - c.pa) (o1 : decide (c.mr < s.nw - c.pa) = false)  : Calls Tryd.prog 37 #[ccv c, agv (smL s)] w fun e w' => e = .returned (ccv c) ∧ Below w.heap.size w w' := by
  go_enter Tryd.func37, Tryd.ntmps37
  go_wp2_with (first | (refine wpC_box rfl rfl rfl ?_))
  intro X1 p HN
  have HX1 : Hid (Below w.heap.size w X1 ∧ Box X1 p 26 (ccL c) ∧ w.heap.size ≤ p ∧ True) := by
    have hb := Below.refl w.heap.size w
    obtain ⟨hg, hb2, bn⟩ := HN.out
    have hz := hb.size
    exact ⟨Below.on hb hb2, bn, by omega, trivial⟩
  clear HN 
  go_wp2_with (first | (refine wpS_box rfl rfl rfl ?_))
  intro X2 q HN
  have HX2 : Hid (Below w.heap.size w X2 ∧ Box X2 p 26 (ccL c) ∧ Box X2 q 28 (smL s) ∧ w.heap.size ≤ p ∧ p < q ∧ True) := by
    obtain ⟨hb, b0, l0, _⟩ := HX1.out
    obtain ⟨hg, hb2, bn⟩ := HN.out
    have z0 := b0.lt
    exact ⟨Below.on hb hb2, b0.later hb2, bn, l0, by omega, trivial⟩
  clear HN HX1
  go_wp2_with (first | (refine wpC_alloc rfl rfl zero26 ?_))
  intro X3 r HN
  have HX3 : Hid (Below w.heap.size w X3 ∧ Box X3 p 26 (ccL c) ∧ Box X3 q 28 (smL s) ∧ Box X3 r 26 (ccL zC) ∧ w.heap.size ≤ p ∧ p < q ∧ q < r ∧ True) := by
    obtain ⟨hb, b0, b1, l0, l1, _⟩ := HX2.out
    obtain ⟨hg, hb2, bn⟩ := HN.out
    have z0 := b0.lt
    have z1 := b1.lt
    exact ⟨Below.on hb hb2, b0.later hb2, b1.later hb2, bn, l0, l1, by omega, trivial⟩
  clear HN HX2
  have k10 : X3.cell? ⟨p, 10, none⟩ = some (.int .i64 3) := by
    have := Box.cell (HX3.out.2.1) 10 rfl
    rw [HL.out] at this
    exact this
  go_upto_region 1 with fail
  go_quiet (fail)
  obtain ⟨X4, hX⟩ : ∃ V, X3.drewN nq = V := ⟨_, rfl⟩
  try rw [hX]
  have HX4 : Hid (Below w.heap.size w X4 ∧ Box X4 p 26 (ccL c) ∧ Box X4 q 28 (smL s) ∧ Box X4 r 26 (ccL zC) ∧ w.heap.size ≤ p ∧ p < q ∧ q < r ∧ True) := by
    obtain ⟨hb, b0, b1, b2, l0, l1, l2, _⟩ := HX3.out
    have hB := below_drewN (Below.refl X3.heap.size X3) nq
    rw [hX] at hB
    exact ⟨Below.on hb hB, b0.later hB, b1.later hB, b2.later hB, l0, l1, l2, trivial⟩
  clear hX HX3
  clear k10
  have k10 : X4.cell? ⟨p, 10, none⟩ = some (.int .i64 3) := by
    have := Box.cell (HX4.out.2.1) 10 rfl
    rw [HL.out] at this
    exact this
  clear HL
  have k19 := Box.cell (HX4.out.2.1) 19 rfl
  have k12 := Box.cell (HX4.out.2.1) 12 rfl
  have j0 := Box.cell (HX4.out.2.2.1) 0 rfl
  go_upto_region 6 with fail
  clear k10 k19 k12 j0
  go_wp2_with (first | (refine wpC_load rfl isC26 rfl rfl (HX4.out.2.1) ?_) | (refine wpC_store rfl isC26 rfl rfl rfl rfl (HX4.out.2.2.2.1) rfl ?_))
  intro X5 HN
  have HX5 : Hid (Below w.heap.size w X5 ∧ Box X5 p 26 (ccL c) ∧ Box X5 q 28 (smL s) ∧ Box X5 r 26 (ccL c) ∧ w.heap.size ≤ p ∧ p < q ∧ q < r ∧ True) := by
    obtain ⟨hb, b0, b1, b2, l0, l1, l2, _⟩ := HX4.out
    obtain ⟨st, bn⟩ := HN.out
    exact ⟨st.below _ _ (by omega) hb, b0.sto st (by omega), b1.sto st (by omega), bn, l0, l1, l2, trivial⟩
  clear HN HX4
  go_wp2_with fail
  refine bodyPost_ret (resC1 isC26 rfl _ _ rfl (HX5.out.2.2.2.1)) rfl ?_
  exact ⟨rfl, HX5.out.1⟩

theorem rcyc_is (c : Cc) (s : Sm) (P : Int) (hm : 1 ≤ c.md ∧ c.md ≤ 4) (hp : 0 ≤ c.ph ∧ c.ph < 8) (ha : 0 ≤ c.pa ∧ c.pa ≤ 1125899906842624) (hr : 0 ≤ c.mr ∧ c.mr ≤ 1125899906842624) (hn : 0 ≤ s.nw ∧ s.nw ≤ 1125899906842624) (w : World) (c1 : ∀ W, Below w.heap.size w W → Calls Tryd.prog 39 #[ccv c] W fun e w' => e = .returned (.int .i64 P) ∧ Below W.heap.size W w') : Calls Tryd.prog 37 #[ccv c, agv (smL s)] w fun e w' => e = .returned (ccv (cycE c s P)) ∧ Below w.heap.size w w' := by
  have wr : IntKind.i64.wrap (s.nw - c.pa) = s.nw - c.pa := by rw [IntKind.wrap_i64]; omega
  unfold cycE
  by_cases h2 : c.md = 2
  · by_cases hf : s.fl ≤ P
    · rw [if_pos ⟨h2, hf⟩]; exact rph_2t w c s P h2 (decide_eq_true hf) c1 (fun W _ => rcru_is W c s.nw)
    · rw [if_neg (by omega), if_neg (by omega)]; exact rph_2f w c s P h2 (decide_eq_false hf) c1
  · rw [if_neg (by omega)]
    by_cases h3 : c.md = 3
    · by_cases hx : c.pa + c.mr < s.nw
      · rw [if_pos ⟨h3, hx⟩]
        exact rph_3y w c s _ h3 wr (decide_eq_true (by omega)) (by rw [IntKind.wrap_i64]; omega) (Int.tmod_eq_emod_of_nonneg (by omega)) (by rw [IntKind.wrap_i64]; omega)
      · rw [if_neg (by omega)]; exact rph_3n w c s h3 wr (decide_eq_false (by omega))
    · rw [if_neg (by omega)]
      by_cases h1 : c.md = 1
      · exact rph_1 w c s h1
      · exact rph_4 w c s (by show c.md = 4; omega)
end Go.Proofs.YtagmighcofllhaaDoor
