/- Texts: KRnd, KRtt, KJdg -/
import Derived.Test.YtagmighcofllhaaDoorGD
namespace Go.Proofs.YtagmighcofllhaaDoor
open Go.ChangeShapes Go.WideShapes Go.ChangeAt Go.RowKit
set_option linter.unusedVariables false
set_option linter.unusedSimpArgs false

open Fil

set_option maxRecDepth 100000 in
set_option maxHeartbeats 4000000 in
theorem rnd_n (c : Cc) (s : Sm) (g : Nat) (w : World) (h : decide (s.bf < c.na) = true) (h2 : s.bf < c.na) (hb : Box w g 48 (ccL c)) : Calls Tryd.prog 26 #[.pointer (some ⟨g, 0, none⟩), agv (smL s)] w fun e w' => e = .returned (.bool false) ∧ Chg w g w' ∧ Box w' g 48 (ccL c) := by
  have HF : Hid (Chg w g w ∧ Box w g 48 (ccL c)) := ⟨Chg.refl w g, hb⟩
  clear hb
  go_enter Tryd.func26, Tryd.ntmps26
  go_wp2_with (first | (refine wpS_box rfl rfl rfl ?_))
  intro X1 p HN
  have HG : Hid (Chg w g X1 ∧ Box X1 g 48 (ccL c)) := ⟨HF.out.1.later HF.out.2.lt HN.out.2.1, HF.out.2.later HN.out.2.1⟩
  have HS : Hid (Box X1 p 28 (smL s) ∧ g < p ∧ w.heap.size ≤ p) := ⟨HN.out.2.2, by have := HF.out.2.lt; rw [HN.out.1]; exact this, by rw [HN.out.1]; exact HF.out.1.size⟩
  clear HF HN
  have HF := HG
  clear HG
  have hne : p ≠ g := by have := HS.out.2.1; omega
  have hlp := HS.out.1.lt
  have k15 := Box.cell HF.out.2 15 rfl
  have j6 := Box.cell HS.out.1 6 rfl
  have fz := fun i => Box.frozen HF.out.2 i
  have hlt := HF.out.2.lt
  go_upto_region 1 with fail
  go_quiet (fail)
  go_wp2_with fail
  go_ret
  refine ⟨rfl, ?hs, ?hx⟩
  case hs => repeat (first | with_reducible exact HF.out.1 | with_reducible refine Chg.set ?_ _ _ | with_reducible refine Chg.drewN ?_ _ | with_reducible refine Chg.drew ?_)
  case hx =>
    apply box_to
    · repeat (first | with_reducible exact HF.out.2 | with_reducible apply Box.set | with_reducible apply Box.drewN | with_reducible apply Box.drew)
    · rfl
theorem enter58 (args : Array Value) (w : World) : (callFunc 58 args).run Tryd.prog w = .ok (.enter 58 args) w := by kernel_rfl
def rn3O0 (ps : String) : Oper := { dst := some 13, op := .move (.tmp 0), type := 70, pos := ps, after := #[], guard := none }
def rn3O1 (ps : String) : Oper := { dst := some 14, op := .move (.tmp 0), type := 70, pos := ps, after := #[{ on := 14, ground := .gcOnly .lateStores }], guard := none }
def rn3O2 (ps : String) : Oper := { dst := some 15, op := .fieldAddr 28 (.tmp 3) 5, type := 0, pos := ps, after := #[], guard := none }
def rn3O3 (ps : String) : Oper := { dst := some 16, op := .load 3 (.tmp 15), type := 3, pos := ps, after := #[{ on := 2, ground := .data }], guard := none }
def rn3O4 (ps : String) : Oper := { dst := some 17, op := .move (.tmp 0), type := 70, pos := ps, after := #[], guard := none }
def rn3O5 (ps : String) : Oper := { dst := some 18, op := .nilCheck (.tmp 17), type := 0, pos := ps, after := #[{ on := 4, ground := .data }], guard := none }
def rn3O6 (ps : String) : Oper := { dst := some 19, op := .fieldAddr 48 (.tmp 18) 0, type := 0, pos := ps, after := #[{ on := 5, ground := .data }], guard := none }
def rn3O7 (ps : String) : Oper := { dst := some 20, op := .fieldAddr 26 (.tmp 19) 14, type := 0, pos := ps, after := #[{ on := 6, ground := .data }], guard := none }
def rn3O8 (ps : String) : Oper := { dst := some 21, op := .load 3 (.tmp 20), type := 3, pos := ps, after := #[{ on := 7, ground := .data }], guard := none }
def rn3O9 (ps : String) : Oper := { dst := some 22, op := .binOp .add 3 (.tmp 21) (.const (.int .i64 1)) 3, type := 3, pos := ps, after := #[{ on := 8, ground := .data }], guard := none }
def rn3O10 (ps : String) : Oper := { dst := some 23, op := .call { callee := .value (.func 58), args := #[.tmp 22], argTypes := #[3] }, type := 3, pos := ps, after := #[{ on := 9, ground := .data }], guard := none }
def rn3O11 (ps : String) : Oper := { dst := some 24, op := .nilCheck (.tmp 13), type := 0, pos := ps, after := #[{ on := 0, ground := .data }, { on := 0, ground := .phase }, { on := 1, ground := .textOnly .lateStores }, { on := 2, ground := .phase }, { on := 3, ground := .phase }, { on := 4, ground := .textOnly .lateStores }, { on := 5, ground := .textOnly .lateStoresUnsure }, { on := 6, ground := .textOnly .lateStoresUnsure }, { on := 7, ground := .textOnly .lateStoresUnsure }, { on := 8, ground := .phase }, { on := 9, ground := .textOnly .lateStoresUnsure }, { on := 10, ground := .phase }], guard := none }
def rn3O12 (ps : String) : Oper := { dst := some 25, op := .fieldAddr 48 (.tmp 24) 0, type := 0, pos := ps, after := #[{ on := 11, ground := .data }, { on := 0, ground := .phase }, { on := 1, ground := .textOnly .lateStores }, { on := 2, ground := .phase }, { on := 3, ground := .phase }, { on := 4, ground := .textOnly .lateStores }, { on := 5, ground := .textOnly .lateStoresUnsure }, { on := 6, ground := .textOnly .lateStoresUnsure }, { on := 7, ground := .textOnly .lateStoresUnsure }, { on := 8, ground := .phase }, { on := 9, ground := .textOnly .lateStoresUnsure }, { on := 10, ground := .phase }], guard := none }
def rn3O13 (ps : String) : Oper := { dst := some 26, op := .fieldAddr 26 (.tmp 25) 15, type := 0, pos := ps, after := #[{ on := 12, ground := .data }, { on := 0, ground := .phase }, { on := 1, ground := .textOnly .lateStores }, { on := 2, ground := .phase }, { on := 3, ground := .phase }, { on := 4, ground := .textOnly .lateStores }, { on := 5, ground := .textOnly .lateStoresUnsure }, { on := 6, ground := .textOnly .lateStoresUnsure }, { on := 7, ground := .textOnly .lateStoresUnsure }, { on := 8, ground := .phase }, { on := 9, ground := .textOnly .lateStoresUnsure }, { on := 10, ground := .phase }], guard := none }
def rn3O14 (ps : String) : Oper := { dst := none, op := .store 3 (.tmp 26) (.tmp 16), type := 0, pos := ps, after := #[{ on := 13, ground := .data }, { on := 3, ground := .data }, { on := 10, ground := .chain }, { on := 0, ground := .phase }, { on := 1, ground := .textOnly .lateStores }, { on := 2, ground := .phase }, { on := 3, ground := .phase }, { on := 4, ground := .textOnly .lateStores }, { on := 5, ground := .textOnly .lateStoresUnsure }, { on := 6, ground := .textOnly .lateStoresUnsure }, { on := 7, ground := .textOnly .lateStoresUnsure }, { on := 8, ground := .phase }, { on := 9, ground := .textOnly .lateStoresUnsure }, { on := 10, ground := .phase }], guard := none }
def rn3O15 (ps : String) : Oper := { dst := some 27, op := .nilCheck (.tmp 14), type := 0, pos := ps, after := #[{ on := 1, ground := .data }, { on := 0, ground := .phase }, { on := 1, ground := .phase }, { on := 2, ground := .phase }, { on := 3, ground := .phase }, { on := 4, ground := .phase }, { on := 5, ground := .phase }, { on := 6, ground := .phase }, { on := 7, ground := .phase }, { on := 8, ground := .phase }, { on := 9, ground := .phase }, { on := 10, ground := .phase }, { on := 11, ground := .phase }, { on := 12, ground := .phase }, { on := 13, ground := .phase }, { on := 14, ground := .phase }], guard := none }
def rn3O16 (ps : String) : Oper := { dst := some 28, op := .fieldAddr 48 (.tmp 27) 0, type := 0, pos := ps, after := #[{ on := 15, ground := .data }, { on := 0, ground := .phase }, { on := 1, ground := .phase }, { on := 2, ground := .phase }, { on := 3, ground := .phase }, { on := 4, ground := .phase }, { on := 5, ground := .phase }, { on := 6, ground := .phase }, { on := 7, ground := .phase }, { on := 8, ground := .phase }, { on := 9, ground := .phase }, { on := 10, ground := .phase }, { on := 11, ground := .phase }, { on := 12, ground := .phase }, { on := 13, ground := .phase }, { on := 14, ground := .phase }], guard := none }
def rn3O17 (ps : String) : Oper := { dst := some 29, op := .fieldAddr 26 (.tmp 28) 14, type := 0, pos := ps, after := #[{ on := 16, ground := .data }, { on := 0, ground := .phase }, { on := 1, ground := .phase }, { on := 2, ground := .phase }, { on := 3, ground := .phase }, { on := 4, ground := .phase }, { on := 5, ground := .phase }, { on := 6, ground := .phase }, { on := 7, ground := .phase }, { on := 8, ground := .phase }, { on := 9, ground := .phase }, { on := 10, ground := .phase }, { on := 11, ground := .phase }, { on := 12, ground := .phase }, { on := 13, ground := .phase }, { on := 14, ground := .phase }], guard := none }
def rn3O18 (ps : String) : Oper := { dst := none, op := .store 3 (.tmp 29) (.tmp 23), type := 0, pos := ps, after := #[{ on := 17, ground := .data }, { on := 10, ground := .data }, { on := 14, ground := .chain }, { on := 0, ground := .phase }, { on := 1, ground := .phase }, { on := 2, ground := .phase }, { on := 3, ground := .phase }, { on := 4, ground := .phase }, { on := 5, ground := .phase }, { on := 6, ground := .phase }, { on := 7, ground := .phase }, { on := 8, ground := .phase }, { on := 9, ground := .phase }, { on := 10, ground := .phase }, { on := 11, ground := .phase }, { on := 12, ground := .phase }, { on := 13, ground := .phase }, { on := 14, ground := .phase }], guard := none }
def rn3 (ps : String) : Array Oper := #[rn3O0 ps, rn3O1 ps, rn3O2 ps, rn3O3 ps, rn3O4 ps, rn3O5 ps, rn3O6 ps, rn3O7 ps, rn3O8 ps, rn3O9 ps, rn3O10 ps, rn3O11 ps, rn3O12 ps, rn3O13 ps, rn3O14 ps, rn3O15 ps, rn3O16 ps, rn3O17 ps, rn3O18 ps]
theorem rn3_0 (ps : String) : (rn3 ps)[0]? = some (rn3O0 ps) := rfl
theorem rn3_1 (ps : String) : (rn3 ps)[1]? = some (rn3O1 ps) := rfl
theorem rn3_2 (ps : String) : (rn3 ps)[2]? = some (rn3O2 ps) := rfl
theorem rn3_3 (ps : String) : (rn3 ps)[3]? = some (rn3O3 ps) := rfl
theorem rn3_4 (ps : String) : (rn3 ps)[4]? = some (rn3O4 ps) := rfl
theorem rn3_5 (ps : String) : (rn3 ps)[5]? = some (rn3O5 ps) := rfl
theorem rn3_6 (ps : String) : (rn3 ps)[6]? = some (rn3O6 ps) := rfl
theorem rn3_7 (ps : String) : (rn3 ps)[7]? = some (rn3O7 ps) := rfl
theorem rn3_8 (ps : String) : (rn3 ps)[8]? = some (rn3O8 ps) := rfl
theorem rn3_9 (ps : String) : (rn3 ps)[9]? = some (rn3O9 ps) := rfl
theorem rn3_10 (ps : String) : (rn3 ps)[10]? = some (rn3O10 ps) := rfl
theorem rn3_11 (ps : String) : (rn3 ps)[11]? = some (rn3O11 ps) := rfl
theorem rn3_12 (ps : String) : (rn3 ps)[12]? = some (rn3O12 ps) := rfl
theorem rn3_13 (ps : String) : (rn3 ps)[13]? = some (rn3O13 ps) := rfl
theorem rn3_14 (ps : String) : (rn3 ps)[14]? = some (rn3O14 ps) := rfl
theorem rn3_15 (ps : String) : (rn3 ps)[15]? = some (rn3O15 ps) := rfl
theorem rn3_16 (ps : String) : (rn3 ps)[16]? = some (rn3O16 ps) := rfl
theorem rn3_17 (ps : String) : (rn3 ps)[17]? = some (rn3O17 ps) := rfl
theorem rn3_18 (ps : String) : (rn3 ps)[18]? = some (rn3O18 ps) := rfl
def rn3D : Nat → Option Tmp
  | 0 => some 13
  | 1 => some 14
  | 2 => some 15
  | 3 => some 16
  | 4 => some 17
  | 5 => some 18
  | 6 => some 19
  | 7 => some 20
  | 8 => some 21
  | 9 => some 22
  | 10 => some 23
  | 11 => some 24
  | 12 => some 25
  | 13 => some 26
  | 14 => none
  | 15 => some 27
  | 16 => some 28
  | 17 => some 29
  | 18 => none
  | _ => none
def rn3T (c : Cc) (s : Sm) (g p : Nat) (r : Int) : Nat → Value
  | 0 => .pointer (some ⟨g, 0, none⟩)
  | 1 => .pointer (some ⟨g, 0, none⟩)
  | 2 => .pointer (some ⟨p, 5, none⟩)
  | 3 => .int .i64 s.gv
  | 4 => .pointer (some ⟨g, 0, none⟩)
  | 5 => .pointer (some ⟨g, 0, none⟩)
  | 6 => .pointer (some ⟨g, 0, none⟩)
  | 7 => .pointer (some ⟨g, 14, none⟩)
  | 8 => .int .i64 c.rd
  | 9 => .int .i64 (c.rd + 1)
  | 10 => .int .i64 r
  | 11 => .pointer (some ⟨g, 0, none⟩)
  | 12 => .pointer (some ⟨g, 0, none⟩)
  | 13 => .pointer (some ⟨g, 15, none⟩)
  | 14 => undef
  | 15 => .pointer (some ⟨g, 0, none⟩)
  | 16 => .pointer (some ⟨g, 0, none⟩)
  | 17 => .pointer (some ⟨g, 14, none⟩)
  | 18 => undef
  | _ => undef
set_option maxRecDepth 100000 in
set_option maxHeartbeats 4000000 in
theorem rn3_reg {ps : String} {Q : Exit → Act → World → Prop} {a0 : Act} {W0 : World} (sz : a0.tmps.size = 30) (c : Cc) (s : Sm) (g p : Nat) (r : Int)
    (e0 : a0.eval (.tmp 0) = .pointer (some ⟨g, 0, none⟩)) (e3 : a0.eval (.tmp 3) = .pointer (some ⟨p, 0, none⟩))
    (hb : Box W0 g 48 (ccL c)) (hs : Box W0 p 28 (smL s)) (hne : p ≠ g) (hw1 : IntKind.i64.wrap (c.rd + 1) = c.rd + 1) (c1 : ∀ W, Calls Tryd.prog 58 #[.int .i64 (c.rd + 1)] W fun e w' => e = .returned (.int .i64 r) ∧ w' = W)
    (hfin : ∀ (T : Nat → Value) w, Chg W0 g w ∧ Box w g 48 (ccL { c with na := s.gv, rd := r }) ∧ Box w p 28 (smL s) → Q .normal (((((((((((((((((a0.put (some 13) (T 0)).put (some 14) (T 1)).put (some 15) (T 2)).put (some 16) (T 3)).put (some 17) (T 4)).put (some 18) (T 5)).put (some 19) (T 6)).put (some 20) (T 7)).put (some 21) (T 8)).put (some 22) (T 9)).put (some 23) (T 10)).put (some 24) (T 11)).put (some 25) (T 12)).put (some 26) (T 13)).put (some 27) (T 15)).put (some 28) (T 16)).put (some 29) (T 17)) w) :
    (Code.region 3 (rn3 ps) true).wp Tryd.prog Q a0 W0 := by
  refine wp_region_dets (by kernel_rfl) 19 rfl rn3D ?_ (by decide) (rn3T c s g p r) (fun D w => Chg W0 g w ∧ Box w g 48 (ccL { c with na := (if D 14 = true then s.gv else c.na), rd := (if D 18 = true then r else c.rd) }) ∧ Box w p 28 (smL s)) (fun D hD => by
    show Chg W0 g W0.drew ∧ Box W0.drew g 48 (ccL { c with na := (if D 14 = true then s.gv else c.na), rd := (if D 18 = true then r else c.rd) }) ∧ Box W0.drew p 28 (smL s)
    rw [hD 14, hD 18]
    exact ⟨(Chg.refl W0 g).drew, hb.drew, hs.drew⟩) ?_ (by rfl) (fun w D hD hSw => by
    have hSw' : Chg W0 g w ∧ Box w g 48 (ccL { c with na := (if D 14 = true then s.gv else c.na), rd := (if D 18 = true then r else c.rd) }) ∧ Box w p 28 (smL s) := hSw
    rw [hD 14 (by decide), hD 18 (by decide)] at hSw'
    exact hfin (rn3T c s g p r) w  hSw')
  · intro jq t hj ht
    have : ∀ j, j < 19 → (rn3D j).all (· < 30) = true := by decide
    have := this jq hj
    rw [ht] at this
    rw [sz]
    simpa using this
  · intro iq o ho D a w hSw hDi hcl hs hel K hK
    have hin : iq < 19 := (Array.getElem?_eq_some_iff.1 ho).1
    match iq, hin, ho with
    | 0, _, ho =>
      obtain rfl := Option.some.inj (ho.symm.trans (rn3_0 ps))
      have u0 : a.eval (.tmp 0) = .pointer (some ⟨g, 0, none⟩) := (hel 0 (by decide)).trans e0
      exact op_valW (rn3_0 ps) rfl (v := .pointer (some ⟨g, 0, none⟩)) (by unfold rn3O0 execOp; simp only [u0]; first | (go_simp; done) | (go_simp; with_reducible rfl)) (hK w (fun D' hi' hj' => by
        have hd14 : D' 14 = D 14 := hj' 14 (by decide)
        have hd18 : D' 18 = D 18 := hj' 18 (by decide)
        show Chg W0 g w ∧ Box w g 48 (ccL { c with na := (if D' 14 = true then s.gv else c.na), rd := (if D' 18 = true then r else c.rd) }) ∧ Box w p 28 (smL s)
        rw [hd14, hd18]
        exact hSw))
    | 1, _, ho =>
      obtain rfl := Option.some.inj (ho.symm.trans (rn3_1 ps))
      have u0 : a.eval (.tmp 0) = .pointer (some ⟨g, 0, none⟩) := (hel 0 (by decide)).trans e0
      exact op_valW (rn3_1 ps) rfl (v := .pointer (some ⟨g, 0, none⟩)) (by unfold rn3O1 execOp; simp only [u0]; first | (go_simp; done) | (go_simp; with_reducible rfl)) (hK w (fun D' hi' hj' => by
        have hd14 : D' 14 = D 14 := hj' 14 (by decide)
        have hd18 : D' 18 = D 18 := hj' 18 (by decide)
        show Chg W0 g w ∧ Box w g 48 (ccL { c with na := (if D' 14 = true then s.gv else c.na), rd := (if D' 18 = true then r else c.rd) }) ∧ Box w p 28 (smL s)
        rw [hd14, hd18]
        exact hSw))
    | 2, _, ho =>
      obtain rfl := Option.some.inj (ho.symm.trans (rn3_2 ps))
      have u3 : a.eval (.tmp 3) = .pointer (some ⟨p, 0, none⟩) := (hel 3 (by decide)).trans e3
      exact op_valW (rn3_2 ps) rfl (v := .pointer (some ⟨p, 5, none⟩)) (by unfold rn3O2 execOp; simp only [u3]; first | (go_simp; done) | (go_simp; with_reducible rfl)) (hK w (fun D' hi' hj' => by
        have hd14 : D' 14 = D 14 := hj' 14 (by decide)
        have hd18 : D' 18 = D 18 := hj' 18 (by decide)
        show Chg W0 g w ∧ Box w g 48 (ccL { c with na := (if D' 14 = true then s.gv else c.na), rd := (if D' 18 = true then r else c.rd) }) ∧ Box w p 28 (smL s)
        rw [hd14, hd18]
        exact hSw))
    | 3, _, ho =>
      obtain rfl := Option.some.inj (ho.symm.trans (rn3_3 ps))
      have s2 : a.eval (.tmp 15) = .pointer (some ⟨p, 5, none⟩) := hs 2 15 (by rfl) rfl
      have hcl : w.cell? ⟨p, 5, none⟩ = some (.int .i64 s.gv) := Box.cell hSw.2.2 5 rfl
      exact op_valW (rn3_3 ps) rfl (v := .int .i64 s.gv) (by unfold rn3O3 execOp; simp only [s2]; first | (go_simp; done) | (go_simp; with_reducible rfl)) (hK w (fun D' hi' hj' => by
        have hd14 : D' 14 = D 14 := hj' 14 (by decide)
        have hd18 : D' 18 = D 18 := hj' 18 (by decide)
        show Chg W0 g w ∧ Box w g 48 (ccL { c with na := (if D' 14 = true then s.gv else c.na), rd := (if D' 18 = true then r else c.rd) }) ∧ Box w p 28 (smL s)
        rw [hd14, hd18]
        exact hSw))
    | 4, _, ho =>
      obtain rfl := Option.some.inj (ho.symm.trans (rn3_4 ps))
      have u0 : a.eval (.tmp 0) = .pointer (some ⟨g, 0, none⟩) := (hel 0 (by decide)).trans e0
      exact op_valW (rn3_4 ps) rfl (v := .pointer (some ⟨g, 0, none⟩)) (by unfold rn3O4 execOp; simp only [u0]; first | (go_simp; done) | (go_simp; with_reducible rfl)) (hK w (fun D' hi' hj' => by
        have hd14 : D' 14 = D 14 := hj' 14 (by decide)
        have hd18 : D' 18 = D 18 := hj' 18 (by decide)
        show Chg W0 g w ∧ Box w g 48 (ccL { c with na := (if D' 14 = true then s.gv else c.na), rd := (if D' 18 = true then r else c.rd) }) ∧ Box w p 28 (smL s)
        rw [hd14, hd18]
        exact hSw))
    | 5, _, ho =>
      obtain rfl := Option.some.inj (ho.symm.trans (rn3_5 ps))
      have s4 : a.eval (.tmp 17) = .pointer (some ⟨g, 0, none⟩) := hs 4 17 (by rfl) rfl
      exact op_valW (rn3_5 ps) rfl (v := .pointer (some ⟨g, 0, none⟩)) (by unfold rn3O5 execOp; simp only [s4]; first | (go_simp; done) | (go_simp; with_reducible rfl)) (hK w (fun D' hi' hj' => by
        have hd14 : D' 14 = D 14 := hj' 14 (by decide)
        have hd18 : D' 18 = D 18 := hj' 18 (by decide)
        show Chg W0 g w ∧ Box w g 48 (ccL { c with na := (if D' 14 = true then s.gv else c.na), rd := (if D' 18 = true then r else c.rd) }) ∧ Box w p 28 (smL s)
        rw [hd14, hd18]
        exact hSw))
    | 6, _, ho =>
      obtain rfl := Option.some.inj (ho.symm.trans (rn3_6 ps))
      have s5 : a.eval (.tmp 18) = .pointer (some ⟨g, 0, none⟩) := hs 5 18 (by rfl) rfl
      exact op_valW (rn3_6 ps) rfl (v := .pointer (some ⟨g, 0, none⟩)) (by unfold rn3O6 execOp; simp only [s5]; first | (go_simp; done) | (go_simp; with_reducible rfl)) (hK w (fun D' hi' hj' => by
        have hd14 : D' 14 = D 14 := hj' 14 (by decide)
        have hd18 : D' 18 = D 18 := hj' 18 (by decide)
        show Chg W0 g w ∧ Box w g 48 (ccL { c with na := (if D' 14 = true then s.gv else c.na), rd := (if D' 18 = true then r else c.rd) }) ∧ Box w p 28 (smL s)
        rw [hd14, hd18]
        exact hSw))
    | 7, _, ho =>
      obtain rfl := Option.some.inj (ho.symm.trans (rn3_7 ps))
      have s6 : a.eval (.tmp 19) = .pointer (some ⟨g, 0, none⟩) := hs 6 19 (by rfl) rfl
      exact op_valW (rn3_7 ps) rfl (v := .pointer (some ⟨g, 14, none⟩)) (by unfold rn3O7 execOp; simp only [s6]; first | (go_simp; done) | (go_simp; with_reducible rfl)) (hK w (fun D' hi' hj' => by
        have hd14 : D' 14 = D 14 := hj' 14 (by decide)
        have hd18 : D' 18 = D 18 := hj' 18 (by decide)
        show Chg W0 g w ∧ Box w g 48 (ccL { c with na := (if D' 14 = true then s.gv else c.na), rd := (if D' 18 = true then r else c.rd) }) ∧ Box w p 28 (smL s)
        rw [hd14, hd18]
        exact hSw))
    | 8, _, ho =>
      obtain rfl := Option.some.inj (ho.symm.trans (rn3_8 ps))
      have s7 : a.eval (.tmp 20) = .pointer (some ⟨g, 14, none⟩) := hs 7 20 (by rfl) rfl
      have hn18 : D 18 = false := by
        cases h : D 18 with
        | false => rfl
        | true => exact absurd (hcl 18 _ 8 (rn3_18 ps) (by rfl) h) (by rw [hDi]; simp)
      have hb2 := hSw.2.1
      have hcl0 := Box.cell hb2 14 rfl
      have hcl : w.cell? ⟨g, 14, none⟩ = some (.int .i64 (c.rd)) := by
        rw [hcl0, hn18]
        rfl
      exact op_valW (rn3_8 ps) rfl (v := .int .i64 c.rd) (by unfold rn3O8 execOp; simp only [s7]; first | (go_simp; done) | (go_simp; with_reducible rfl)) (hK w (fun D' hi' hj' => by
        have hd14 : D' 14 = D 14 := hj' 14 (by decide)
        have hd18 : D' 18 = D 18 := hj' 18 (by decide)
        show Chg W0 g w ∧ Box w g 48 (ccL { c with na := (if D' 14 = true then s.gv else c.na), rd := (if D' 18 = true then r else c.rd) }) ∧ Box w p 28 (smL s)
        rw [hd14, hd18]
        exact hSw))
    | 9, _, ho =>
      obtain rfl := Option.some.inj (ho.symm.trans (rn3_9 ps))
      have s8 : a.eval (.tmp 21) = .int .i64 c.rd := hs 8 21 (by rfl) rfl
      have hcl : IntKind.i64.wrap (c.rd + 1) = c.rd + 1 := hw1
      exact op_valW (rn3_9 ps) rfl (v := .int .i64 (c.rd + 1)) (by unfold rn3O9 execOp; simp only [s8]; first | (go_simp; done) | (go_simp; with_reducible rfl)) (hK w (fun D' hi' hj' => by
        have hd14 : D' 14 = D 14 := hj' 14 (by decide)
        have hd18 : D' 18 = D 18 := hj' 18 (by decide)
        show Chg W0 g w ∧ Box w g 48 (ccL { c with na := (if D' 14 = true then s.gv else c.na), rd := (if D' 18 = true then r else c.rd) }) ∧ Box w p 28 (smL s)
        rw [hd14, hd18]
        exact hSw))
    | 10, _, ho =>
      obtain rfl := Option.some.inj (ho.symm.trans (rn3_10 ps))
      have s9 : a.eval (.tmp 22) = .int .i64 (c.rd + 1) := hs 9 22 (by rfl) rfl
      exact op_enterW (rn3_10 ps) rfl (f := 58) (args := #[.int .i64 (c.rd + 1)]) (by rw [run_call rfl enter58]; simp only [List.map_toArray, List.map_cons, List.map_nil, s9]; try rfl) ((c1 w).mono (fun e w' hh => ⟨_, hh.1, hK w' (fun D' hi' hj' => by
        have hd14 : D' 14 = D 14 := hj' 14 (by decide)
        have hd18 : D' 18 = D 18 := hj' 18 (by decide)
        show Chg W0 g w' ∧ Box w' g 48 (ccL { c with na := (if D' 14 = true then s.gv else c.na), rd := (if D' 18 = true then r else c.rd) }) ∧ Box w' p 28 (smL s)
        rw [hd14, hd18]
        exact (by rw [hh.2]; exact hSw))⟩))
    | 11, _, ho =>
      obtain rfl := Option.some.inj (ho.symm.trans (rn3_11 ps))
      have s0 : a.eval (.tmp 13) = .pointer (some ⟨g, 0, none⟩) := hs 0 13 (by rfl) rfl
      exact op_valW (rn3_11 ps) rfl (v := .pointer (some ⟨g, 0, none⟩)) (by unfold rn3O11 execOp; simp only [s0]; first | (go_simp; done) | (go_simp; with_reducible rfl)) (hK w (fun D' hi' hj' => by
        have hd14 : D' 14 = D 14 := hj' 14 (by decide)
        have hd18 : D' 18 = D 18 := hj' 18 (by decide)
        show Chg W0 g w ∧ Box w g 48 (ccL { c with na := (if D' 14 = true then s.gv else c.na), rd := (if D' 18 = true then r else c.rd) }) ∧ Box w p 28 (smL s)
        rw [hd14, hd18]
        exact hSw))
    | 12, _, ho =>
      obtain rfl := Option.some.inj (ho.symm.trans (rn3_12 ps))
      have s11 : a.eval (.tmp 24) = .pointer (some ⟨g, 0, none⟩) := hs 11 24 (by rfl) rfl
      exact op_valW (rn3_12 ps) rfl (v := .pointer (some ⟨g, 0, none⟩)) (by unfold rn3O12 execOp; simp only [s11]; first | (go_simp; done) | (go_simp; with_reducible rfl)) (hK w (fun D' hi' hj' => by
        have hd14 : D' 14 = D 14 := hj' 14 (by decide)
        have hd18 : D' 18 = D 18 := hj' 18 (by decide)
        show Chg W0 g w ∧ Box w g 48 (ccL { c with na := (if D' 14 = true then s.gv else c.na), rd := (if D' 18 = true then r else c.rd) }) ∧ Box w p 28 (smL s)
        rw [hd14, hd18]
        exact hSw))
    | 13, _, ho =>
      obtain rfl := Option.some.inj (ho.symm.trans (rn3_13 ps))
      have s12 : a.eval (.tmp 25) = .pointer (some ⟨g, 0, none⟩) := hs 12 25 (by rfl) rfl
      exact op_valW (rn3_13 ps) rfl (v := .pointer (some ⟨g, 15, none⟩)) (by unfold rn3O13 execOp; simp only [s12]; first | (go_simp; done) | (go_simp; with_reducible rfl)) (hK w (fun D' hi' hj' => by
        have hd14 : D' 14 = D 14 := hj' 14 (by decide)
        have hd18 : D' 18 = D 18 := hj' 18 (by decide)
        show Chg W0 g w ∧ Box w g 48 (ccL { c with na := (if D' 14 = true then s.gv else c.na), rd := (if D' 18 = true then r else c.rd) }) ∧ Box w p 28 (smL s)
        rw [hd14, hd18]
        exact hSw))
    | 14, _, ho =>
      obtain rfl := Option.some.inj (ho.symm.trans (rn3_14 ps))
      have s13 : a.eval (.tmp 26) = .pointer (some ⟨g, 15, none⟩) := hs 13 26 (by rfl) rfl
      have s3 : a.eval (.tmp 16) = .int .i64 s.gv := hs 3 16 (by rfl) rfl
      have hcx := Box.cell hSw.2.1 15 rfl
      have hfz := Box.frozen hSw.2.1 15
      exact op_stoW (rn3_14 ps) rfl rfl (w' := (w.setCell ⟨g, 15, none⟩ (.int .i64 (s.gv)))) (by unfold rn3O14 execOp; simp only [s13, s3]; first | (go_simp; done) | (go_simp; with_reducible rfl)) (hK _ (fun D' hi' hj' => by
        have hd14 : D' 14 = true := hi'
        have hd18 : D' 18 = D 18 := hj' 18 (by decide)
        show Chg W0 g (w.setCell ⟨g, 15, none⟩ (.int .i64 (s.gv))) ∧ Box (w.setCell ⟨g, 15, none⟩ (.int .i64 (s.gv))) g 48 (ccL { c with na := (if D' 14 = true then s.gv else c.na), rd := (if D' 18 = true then r else c.rd) }) ∧ Box (w.setCell ⟨g, 15, none⟩ (.int .i64 (s.gv))) p 28 (smL s)
        rw [hd14, hd18]
        exact ⟨hSw.1.set _ _, box_to (hSw.2.1.set 15 _) rfl, hSw.2.2.aside _ _ _ hne⟩))
    | 15, _, ho =>
      obtain rfl := Option.some.inj (ho.symm.trans (rn3_15 ps))
      have s1 : a.eval (.tmp 14) = .pointer (some ⟨g, 0, none⟩) := hs 1 14 (by rfl) rfl
      exact op_valW (rn3_15 ps) rfl (v := .pointer (some ⟨g, 0, none⟩)) (by unfold rn3O15 execOp; simp only [s1]; first | (go_simp; done) | (go_simp; with_reducible rfl)) (hK w (fun D' hi' hj' => by
        have hd14 : D' 14 = D 14 := hj' 14 (by decide)
        have hd18 : D' 18 = D 18 := hj' 18 (by decide)
        show Chg W0 g w ∧ Box w g 48 (ccL { c with na := (if D' 14 = true then s.gv else c.na), rd := (if D' 18 = true then r else c.rd) }) ∧ Box w p 28 (smL s)
        rw [hd14, hd18]
        exact hSw))
    | 16, _, ho =>
      obtain rfl := Option.some.inj (ho.symm.trans (rn3_16 ps))
      have s15 : a.eval (.tmp 27) = .pointer (some ⟨g, 0, none⟩) := hs 15 27 (by rfl) rfl
      exact op_valW (rn3_16 ps) rfl (v := .pointer (some ⟨g, 0, none⟩)) (by unfold rn3O16 execOp; simp only [s15]; first | (go_simp; done) | (go_simp; with_reducible rfl)) (hK w (fun D' hi' hj' => by
        have hd14 : D' 14 = D 14 := hj' 14 (by decide)
        have hd18 : D' 18 = D 18 := hj' 18 (by decide)
        show Chg W0 g w ∧ Box w g 48 (ccL { c with na := (if D' 14 = true then s.gv else c.na), rd := (if D' 18 = true then r else c.rd) }) ∧ Box w p 28 (smL s)
        rw [hd14, hd18]
        exact hSw))
    | 17, _, ho =>
      obtain rfl := Option.some.inj (ho.symm.trans (rn3_17 ps))
      have s16 : a.eval (.tmp 28) = .pointer (some ⟨g, 0, none⟩) := hs 16 28 (by rfl) rfl
      exact op_valW (rn3_17 ps) rfl (v := .pointer (some ⟨g, 14, none⟩)) (by unfold rn3O17 execOp; simp only [s16]; first | (go_simp; done) | (go_simp; with_reducible rfl)) (hK w (fun D' hi' hj' => by
        have hd14 : D' 14 = D 14 := hj' 14 (by decide)
        have hd18 : D' 18 = D 18 := hj' 18 (by decide)
        show Chg W0 g w ∧ Box w g 48 (ccL { c with na := (if D' 14 = true then s.gv else c.na), rd := (if D' 18 = true then r else c.rd) }) ∧ Box w p 28 (smL s)
        rw [hd14, hd18]
        exact hSw))
    | 18, _, ho =>
      obtain rfl := Option.some.inj (ho.symm.trans (rn3_18 ps))
      have s17 : a.eval (.tmp 29) = .pointer (some ⟨g, 14, none⟩) := hs 17 29 (by rfl) rfl
      have s10 : a.eval (.tmp 23) = .int .i64 r := hs 10 23 (by rfl) rfl
      have hcx := Box.cell hSw.2.1 14 rfl
      have hfz := Box.frozen hSw.2.1 14
      exact op_stoW (rn3_18 ps) rfl rfl (w' := (w.setCell ⟨g, 14, none⟩ (.int .i64 (r)))) (by unfold rn3O18 execOp; simp only [s17, s10]; first | (go_simp; done) | (go_simp; with_reducible rfl)) (hK _ (fun D' hi' hj' => by
        have hd14 : D' 14 = D 14 := hj' 14 (by decide)
        have hd18 : D' 18 = true := hi'
        show Chg W0 g (w.setCell ⟨g, 14, none⟩ (.int .i64 (r))) ∧ Box (w.setCell ⟨g, 14, none⟩ (.int .i64 (r))) g 48 (ccL { c with na := (if D' 14 = true then s.gv else c.na), rd := (if D' 18 = true then r else c.rd) }) ∧ Box (w.setCell ⟨g, 14, none⟩ (.int .i64 (r))) p 28 (smL s)
        rw [hd14, hd18]
        exact ⟨hSw.1.set _ _, box_to (hSw.2.1.set 14 _) rfl, hSw.2.2.aside _ _ _ hne⟩))
    | iq + 19, hin, _ => exact absurd hin (by omega)

set_option maxRecDepth 100000 in
set_option maxHeartbeats 4000000 in
theorem rnd_y (c : Cc) (s : Sm) (g : Nat) (w : World) (r : Int) (h : decide (s.bf < c.na) = false) (h2 : c.na ≤ s.bf) (hw1 : IntKind.i64.wrap (c.rd + 1) = c.rd + 1) (c1 : ∀ W, Calls Tryd.prog 58 #[.int .i64 (c.rd + 1)] W fun e w' => e = .returned (.int .i64 r) ∧ w' = W) (hb : Box w g 48 (ccL c)) : Calls Tryd.prog 26 #[.pointer (some ⟨g, 0, none⟩), agv (smL s)] w fun e w' => e = .returned (.bool true) ∧ Chg w g w' ∧ Box w' g 48 (ccL { c with na := s.gv, rd := r }) := by
  have HF : Hid (Chg w g w ∧ Box w g 48 (ccL c)) := ⟨Chg.refl w g, hb⟩
  clear hb
  go_enter Tryd.func26, Tryd.ntmps26
  go_wp2_with (first | (refine wpS_box rfl rfl rfl ?_))
  intro X1 p HN
  have HG : Hid (Chg w g X1 ∧ Box X1 g 48 (ccL c)) := ⟨HF.out.1.later HF.out.2.lt HN.out.2.1, HF.out.2.later HN.out.2.1⟩
  have HS : Hid (Box X1 p 28 (smL s) ∧ g < p ∧ w.heap.size ≤ p) := ⟨HN.out.2.2, by have := HF.out.2.lt; rw [HN.out.1]; exact this, by rw [HN.out.1]; exact HF.out.1.size⟩
  clear HF HN
  have HF := HG
  clear HG
  have hne : p ≠ g := by have := HS.out.2.1; omega
  have hlp := HS.out.1.lt
  have k15 := Box.cell HF.out.2 15 rfl
  have j6 := Box.cell HS.out.1 6 rfl
  have fz := fun i => Box.frozen HF.out.2 i
  have hlt := HF.out.2.lt
  go_upto_region 1 with fail
  go_quiet (fail)
  go_upto_region 3 with fail
  clear fz hlt k15 j6
  refine rn3_reg (by rfl) c s g p r rfl rfl (HF.out.2.drewN _) (HS.out.1.drewN _) hne hw1 c1 ?_
  intro T w9  hS
  simp only [Act.put, List.setIfInBounds_toArray, List.set_cons_zero, List.set_cons_succ]
  have HG : Hid (Chg w g w9 ∧ Box w9 g 48 (ccL { c with na := s.gv, rd := r })) := ⟨(HF.out.1.drewN _).trans hS.1, hS.2.1⟩
  have HS2 : Hid (Box w9 p 28 (smL s) ∧ g < p ∧ w.heap.size ≤ p) := ⟨hS.2.2, HS.out.2⟩
  clear HS
  have HS := HS2
  clear HS2
  clear hS HF 
  have HF := HG
  clear HG
  go_wp2_with fail
  go_ret
  refine ⟨rfl, ?hs, ?hx⟩
  case hs => repeat (first | with_reducible exact HF.out.1 | with_reducible refine Chg.set ?_ _ _ | with_reducible refine Chg.drewN ?_ _ | with_reducible refine Chg.drew ?_)
  case hx =>
    apply box_to
    · repeat (first | with_reducible exact HF.out.2 | with_reducible apply Box.set | with_reducible apply Box.drewN | with_reducible apply Box.drew)
    · rfl

theorem rnd_is (c : Cc) (s : Sm) (g : Nat) (hr : 0 ≤ c.rd ∧ c.rd ≤ 1125899906842624) (w : World) (hb : Box w g 48 (ccL c)) : Calls Tryd.prog 26 #[.pointer (some ⟨g, 0, none⟩), agv (smL s)] w fun e w' => e = .returned (.bool (rndB c s)) ∧ Chg w g w' ∧ Box w' g 48 (ccL (rndE c s)) := by
  unfold rndB rndE
  by_cases h : c.na ≤ s.bf
  · rw [if_pos h, show decide (c.na ≤ s.bf) = true from decide_eq_true h]
    exact rnd_y c s g w _ (decide_eq_false (by omega)) h (by rw [IntKind.wrap_i64]; omega) (fun W => held_is _ _ rfl W) hb
  · rw [if_neg h, show decide (c.na ≤ s.bf) = false from decide_eq_false h]
    exact rnd_n c s g w (decide_eq_true (by omega)) (by omega) hb
end Go.Proofs.YtagmighcofllhaaDoor

/- The contract of learnRtt. -/
namespace Go.Proofs.YtagmighcofllhaaDoor
open Go.ChangeShapes Go.WideShapes Go.ChangeAt Go.RowKit
set_option linter.unusedVariables false
set_option linter.unusedSimpArgs false

open Fil

set_option maxRecDepth 100000 in
set_option maxHeartbeats 4000000 in
theorem rtt_az (c : Cc) (s : Sm) (g : Nat) (w : World) (m1 : decide (0 < c.mr) = false) (m2 : (c.mr == 0) = true) (r1 : decide (0 < s.rt) = false) (hb : Box w g 48 (ccL c)) : Calls Tryd.prog 28 #[.pointer (some ⟨g, 0, none⟩), agv (smL s)] w fun e w' => e = .returned (.bool false) ∧ Chg w g w' ∧ Box w' g 48 (ccL c) := by
  have HF : Hid (Chg w g w ∧ Box w g 48 (ccL c)) := ⟨Chg.refl w g, hb⟩
  clear hb
  go_enter Tryd.func28, Tryd.ntmps28
  go_wp2_with (first | (refine wpS_box rfl rfl rfl ?_))
  intro X1 p HN
  have HG : Hid (Chg w g X1 ∧ Box X1 g 48 (ccL c)) := ⟨HF.out.1.later HF.out.2.lt HN.out.2.1, HF.out.2.later HN.out.2.1⟩
  have HS : Hid (Box X1 p 28 (smL s) ∧ g < p ∧ w.heap.size ≤ p) := ⟨HN.out.2.2, by have := HF.out.2.lt; rw [HN.out.1]; exact this, by rw [HN.out.1]; exact HF.out.1.size⟩
  clear HF HN
  have HF := HG
  clear HG
  have hne : p ≠ g := by have := HS.out.2.1; omega
  have hlp := HS.out.1.lt
  have k12 := Box.cell HF.out.2 12 rfl
  have k13 := Box.cell HF.out.2 13 rfl
  have j0 := Box.cell HS.out.1 0 rfl
  have j2 := Box.cell HS.out.1 2 rfl
  have fz := fun i => Box.frozen HF.out.2 i
  have hlt := HF.out.2.lt
  go_upto_region 1 with fail
  go_quiet (fail)
  go_upto_region 2 with fail
  go_quiet (fail)
  go_wp2_with fail
  go_ret
  refine ⟨rfl, ?hs, ?hx⟩
  case hs => repeat (first | with_reducible exact HF.out.1 | with_reducible refine Chg.set ?_ _ _ | with_reducible refine Chg.drewN ?_ _ | with_reducible refine Chg.drew ?_)
  case hx =>
    apply box_to
    · repeat (first | with_reducible exact HF.out.2 | with_reducible apply Box.set | with_reducible apply Box.drewN | with_reducible apply Box.drew)
    · rfl

set_option maxRecDepth 100000 in
set_option maxHeartbeats 4000000 in
theorem rtt_ag (c : Cc) (s : Sm) (g : Nat) (w : World) (m1 : decide (0 < c.mr) = false) (m2 : (c.mr == 0) = true) (r1 : decide (0 < s.rt) = true) (hb : Box w g 48 (ccL c)) : Calls Tryd.prog 28 #[.pointer (some ⟨g, 0, none⟩), agv (smL s)] w fun e w' => e = .returned (.bool false) ∧ Chg w g w' ∧ Box w' g 48 (ccL { c with mr := s.rt, ma := s.nw }) := by
  have HF : Hid (Chg w g w ∧ Box w g 48 (ccL c)) := ⟨Chg.refl w g, hb⟩
  clear hb
  go_enter Tryd.func28, Tryd.ntmps28
  go_wp2_with (first | (refine wpS_box rfl rfl rfl ?_))
  intro X1 p HN
  have HG : Hid (Chg w g X1 ∧ Box X1 g 48 (ccL c)) := ⟨HF.out.1.later HF.out.2.lt HN.out.2.1, HF.out.2.later HN.out.2.1⟩
  have HS : Hid (Box X1 p 28 (smL s) ∧ g < p ∧ w.heap.size ≤ p) := ⟨HN.out.2.2, by have := HF.out.2.lt; rw [HN.out.1]; exact this, by rw [HN.out.1]; exact HF.out.1.size⟩
  clear HF HN
  have HF := HG
  clear HG
  have hne : p ≠ g := by have := HS.out.2.1; omega
  have hlp := HS.out.1.lt
  have k12 := Box.cell HF.out.2 12 rfl
  have k13 := Box.cell HF.out.2 13 rfl
  have j0 := Box.cell HS.out.1 0 rfl
  have j2 := Box.cell HS.out.1 2 rfl
  have fz := fun i => Box.frozen HF.out.2 i
  have hlt := HF.out.2.lt
  go_upto_region 1 with fail
  go_quiet (fail)
  go_upto_region 2 with fail
  go_quiet (fail)
  go_upto_region 3 with fail
  go_region
  go_wp2_with fail
  go_ret
  refine ⟨rfl, ?hs, ?hx⟩
  case hs => repeat (first | with_reducible exact HF.out.1 | with_reducible refine Chg.set ?_ _ _ | with_reducible refine Chg.drewN ?_ _ | with_reducible refine Chg.drew ?_)
  case hx =>
    apply box_to
    · repeat (first | with_reducible exact HF.out.2 | with_reducible apply Box.set | with_reducible apply Box.drewN | with_reducible apply Box.drew)
    · rfl

set_option maxRecDepth 100000 in
set_option maxHeartbeats 4000000 in
theorem rtt_oz (c : Cc) (s : Sm) (g : Nat) (w : World) (m1 : decide (0 < c.mr) = true) (m2 : (c.mr == 0) = false) (wr : IntKind.i64.wrap (c.ma + 10000000) = c.ma + 10000000) (o1 : decide (c.ma + 10000000 < s.nw) = true) (r1 : decide (0 < s.rt) = false) (hb : Box w g 48 (ccL c)) : Calls Tryd.prog 28 #[.pointer (some ⟨g, 0, none⟩), agv (smL s)] w fun e w' => e = .returned (.bool true) ∧ Chg w g w' ∧ Box w' g 48 (ccL c) := by
  have HF : Hid (Chg w g w ∧ Box w g 48 (ccL c)) := ⟨Chg.refl w g, hb⟩
  clear hb
  go_enter Tryd.func28, Tryd.ntmps28
  go_wp2_with (first | (refine wpS_box rfl rfl rfl ?_))
  intro X1 p HN
  have HG : Hid (Chg w g X1 ∧ Box X1 g 48 (ccL c)) := ⟨HF.out.1.later HF.out.2.lt HN.out.2.1, HF.out.2.later HN.out.2.1⟩
  have HS : Hid (Box X1 p 28 (smL s) ∧ g < p ∧ w.heap.size ≤ p) := ⟨HN.out.2.2, by have := HF.out.2.lt; rw [HN.out.1]; exact this, by rw [HN.out.1]; exact HF.out.1.size⟩
  clear HF HN
  have HF := HG
  clear HG
  have hne : p ≠ g := by have := HS.out.2.1; omega
  have hlp := HS.out.1.lt
  have k12 := Box.cell HF.out.2 12 rfl
  have k13 := Box.cell HF.out.2 13 rfl
  have j0 := Box.cell HS.out.1 0 rfl
  have j2 := Box.cell HS.out.1 2 rfl
  have fz := fun i => Box.frozen HF.out.2 i
  have hlt := HF.out.2.lt
  go_upto_region 1 with fail
  go_quiet (fail)
  go_upto_region 2 with fail
  go_quiet (fail)
  go_wp2_with fail
  go_ret
  refine ⟨rfl, ?hs, ?hx⟩
  case hs => repeat (first | with_reducible exact HF.out.1 | with_reducible refine Chg.set ?_ _ _ | with_reducible refine Chg.drewN ?_ _ | with_reducible refine Chg.drew ?_)
  case hx =>
    apply box_to
    · repeat (first | with_reducible exact HF.out.2 | with_reducible apply Box.set | with_reducible apply Box.drewN | with_reducible apply Box.drew)
    · rfl

set_option maxRecDepth 100000 in
set_option maxHeartbeats 4000000 in
theorem rtt_ol (c : Cc) (s : Sm) (g : Nat) (w : World) (m1 : decide (0 < c.mr) = true) (m2 : (c.mr == 0) = false) (wr : IntKind.i64.wrap (c.ma + 10000000) = c.ma + 10000000) (o1 : decide (c.ma + 10000000 < s.nw) = true) (r1 : decide (0 < s.rt) = true) (r2 : decide (s.rt ≤ c.mr) = true) (hb : Box w g 48 (ccL c)) : Calls Tryd.prog 28 #[.pointer (some ⟨g, 0, none⟩), agv (smL s)] w fun e w' => e = .returned (.bool true) ∧ Chg w g w' ∧ Box w' g 48 (ccL { c with mr := s.rt, ma := s.nw }) := by
  have HF : Hid (Chg w g w ∧ Box w g 48 (ccL c)) := ⟨Chg.refl w g, hb⟩
  clear hb
  go_enter Tryd.func28, Tryd.ntmps28
  go_wp2_with (first | (refine wpS_box rfl rfl rfl ?_))
  intro X1 p HN
  have HG : Hid (Chg w g X1 ∧ Box X1 g 48 (ccL c)) := ⟨HF.out.1.later HF.out.2.lt HN.out.2.1, HF.out.2.later HN.out.2.1⟩
  have HS : Hid (Box X1 p 28 (smL s) ∧ g < p ∧ w.heap.size ≤ p) := ⟨HN.out.2.2, by have := HF.out.2.lt; rw [HN.out.1]; exact this, by rw [HN.out.1]; exact HF.out.1.size⟩
  clear HF HN
  have HF := HG
  clear HG
  have hne : p ≠ g := by have := HS.out.2.1; omega
  have hlp := HS.out.1.lt
  have k12 := Box.cell HF.out.2 12 rfl
  have k13 := Box.cell HF.out.2 13 rfl
  have j0 := Box.cell HS.out.1 0 rfl
  have j2 := Box.cell HS.out.1 2 rfl
  have fz := fun i => Box.frozen HF.out.2 i
  have hlt := HF.out.2.lt
  go_upto_region 1 with fail
  go_quiet (fail)
  go_upto_region 2 with fail
  go_quiet (fail)
  go_upto_region 3 with fail
  go_region
  go_wp2_with fail
  go_ret
  refine ⟨rfl, ?hs, ?hx⟩
  case hs => repeat (first | with_reducible exact HF.out.1 | with_reducible refine Chg.set ?_ _ _ | with_reducible refine Chg.drewN ?_ _ | with_reducible refine Chg.drew ?_)
  case hx =>
    apply box_to
    · repeat (first | with_reducible exact HF.out.2 | with_reducible apply Box.set | with_reducible apply Box.drewN | with_reducible apply Box.drew)
    · rfl

set_option maxRecDepth 100000 in
set_option maxHeartbeats 4000000 in
theorem rtt_og (c : Cc) (s : Sm) (g : Nat) (w : World) (m1 : decide (0 < c.mr) = true) (m2 : (c.mr == 0) = false) (wr : IntKind.i64.wrap (c.ma + 10000000) = c.ma + 10000000) (o1 : decide (c.ma + 10000000 < s.nw) = true) (r1 : decide (0 < s.rt) = true) (r2 : decide (s.rt ≤ c.mr) = false) (hb : Box w g 48 (ccL c)) : Calls Tryd.prog 28 #[.pointer (some ⟨g, 0, none⟩), agv (smL s)] w fun e w' => e = .returned (.bool true) ∧ Chg w g w' ∧ Box w' g 48 (ccL { c with mr := s.rt, ma := s.nw }) := by
  have HF : Hid (Chg w g w ∧ Box w g 48 (ccL c)) := ⟨Chg.refl w g, hb⟩
  clear hb
  go_enter Tryd.func28, Tryd.ntmps28
  go_wp2_with (first | (refine wpS_box rfl rfl rfl ?_))
  intro X1 p HN
  have HG : Hid (Chg w g X1 ∧ Box X1 g 48 (ccL c)) := ⟨HF.out.1.later HF.out.2.lt HN.out.2.1, HF.out.2.later HN.out.2.1⟩
  have HS : Hid (Box X1 p 28 (smL s) ∧ g < p ∧ w.heap.size ≤ p) := ⟨HN.out.2.2, by have := HF.out.2.lt; rw [HN.out.1]; exact this, by rw [HN.out.1]; exact HF.out.1.size⟩
  clear HF HN
  have HF := HG
  clear HG
  have hne : p ≠ g := by have := HS.out.2.1; omega
  have hlp := HS.out.1.lt
  have k12 := Box.cell HF.out.2 12 rfl
  have k13 := Box.cell HF.out.2 13 rfl
  have j0 := Box.cell HS.out.1 0 rfl
  have j2 := Box.cell HS.out.1 2 rfl
  have fz := fun i => Box.frozen HF.out.2 i
  have hlt := HF.out.2.lt
  go_upto_region 1 with fail
  go_quiet (fail)
  go_upto_region 2 with fail
  go_quiet (fail)
  go_upto_region 3 with fail
  go_region
  go_wp2_with fail
  go_ret
  refine ⟨rfl, ?hs, ?hx⟩
  case hs => repeat (first | with_reducible exact HF.out.1 | with_reducible refine Chg.set ?_ _ _ | with_reducible refine Chg.drewN ?_ _ | with_reducible refine Chg.drew ?_)
  case hx =>
    apply box_to
    · repeat (first | with_reducible exact HF.out.2 | with_reducible apply Box.set | with_reducible apply Box.drewN | with_reducible apply Box.drew)
    · rfl

set_option maxRecDepth 100000 in
set_option maxHeartbeats 4000000 in
theorem rtt_nz (c : Cc) (s : Sm) (g : Nat) (w : World) (m1 : decide (0 < c.mr) = true) (m2 : (c.mr == 0) = false) (wr : IntKind.i64.wrap (c.ma + 10000000) = c.ma + 10000000) (o1 : decide (c.ma + 10000000 < s.nw) = false) (r1 : decide (0 < s.rt) = false) (hb : Box w g 48 (ccL c)) : Calls Tryd.prog 28 #[.pointer (some ⟨g, 0, none⟩), agv (smL s)] w fun e w' => e = .returned (.bool false) ∧ Chg w g w' ∧ Box w' g 48 (ccL c) := by
  have HF : Hid (Chg w g w ∧ Box w g 48 (ccL c)) := ⟨Chg.refl w g, hb⟩
  clear hb
  go_enter Tryd.func28, Tryd.ntmps28
  go_wp2_with (first | (refine wpS_box rfl rfl rfl ?_))
  intro X1 p HN
  have HG : Hid (Chg w g X1 ∧ Box X1 g 48 (ccL c)) := ⟨HF.out.1.later HF.out.2.lt HN.out.2.1, HF.out.2.later HN.out.2.1⟩
  have HS : Hid (Box X1 p 28 (smL s) ∧ g < p ∧ w.heap.size ≤ p) := ⟨HN.out.2.2, by have := HF.out.2.lt; rw [HN.out.1]; exact this, by rw [HN.out.1]; exact HF.out.1.size⟩
  clear HF HN
  have HF := HG
  clear HG
  have hne : p ≠ g := by have := HS.out.2.1; omega
  have hlp := HS.out.1.lt
  have k12 := Box.cell HF.out.2 12 rfl
  have k13 := Box.cell HF.out.2 13 rfl
  have j0 := Box.cell HS.out.1 0 rfl
  have j2 := Box.cell HS.out.1 2 rfl
  have fz := fun i => Box.frozen HF.out.2 i
  have hlt := HF.out.2.lt
  go_upto_region 1 with fail
  go_quiet (fail)
  go_upto_region 2 with fail
  go_quiet (fail)
  go_wp2_with fail
  go_ret
  refine ⟨rfl, ?hs, ?hx⟩
  case hs => repeat (first | with_reducible exact HF.out.1 | with_reducible refine Chg.set ?_ _ _ | with_reducible refine Chg.drewN ?_ _ | with_reducible refine Chg.drew ?_)
  case hx =>
    apply box_to
    · repeat (first | with_reducible exact HF.out.2 | with_reducible apply Box.set | with_reducible apply Box.drewN | with_reducible apply Box.drew)
    · rfl

set_option maxRecDepth 100000 in
set_option maxHeartbeats 4000000 in
theorem rtt_nl (c : Cc) (s : Sm) (g : Nat) (w : World) (m1 : decide (0 < c.mr) = true) (m2 : (c.mr == 0) = false) (wr : IntKind.i64.wrap (c.ma + 10000000) = c.ma + 10000000) (o1 : decide (c.ma + 10000000 < s.nw) = false) (r1 : decide (0 < s.rt) = true) (r2 : decide (s.rt ≤ c.mr) = true) (hb : Box w g 48 (ccL c)) : Calls Tryd.prog 28 #[.pointer (some ⟨g, 0, none⟩), agv (smL s)] w fun e w' => e = .returned (.bool false) ∧ Chg w g w' ∧ Box w' g 48 (ccL { c with mr := s.rt, ma := s.nw }) := by
  have HF : Hid (Chg w g w ∧ Box w g 48 (ccL c)) := ⟨Chg.refl w g, hb⟩
  clear hb
  go_enter Tryd.func28, Tryd.ntmps28
  go_wp2_with (first | (refine wpS_box rfl rfl rfl ?_))
  intro X1 p HN
  have HG : Hid (Chg w g X1 ∧ Box X1 g 48 (ccL c)) := ⟨HF.out.1.later HF.out.2.lt HN.out.2.1, HF.out.2.later HN.out.2.1⟩
  have HS : Hid (Box X1 p 28 (smL s) ∧ g < p ∧ w.heap.size ≤ p) := ⟨HN.out.2.2, by have := HF.out.2.lt; rw [HN.out.1]; exact this, by rw [HN.out.1]; exact HF.out.1.size⟩
  clear HF HN
  have HF := HG
  clear HG
  have hne : p ≠ g := by have := HS.out.2.1; omega
  have hlp := HS.out.1.lt
  have k12 := Box.cell HF.out.2 12 rfl
  have k13 := Box.cell HF.out.2 13 rfl
  have j0 := Box.cell HS.out.1 0 rfl
  have j2 := Box.cell HS.out.1 2 rfl
  have fz := fun i => Box.frozen HF.out.2 i
  have hlt := HF.out.2.lt
  go_upto_region 1 with fail
  go_quiet (fail)
  go_upto_region 2 with fail
  go_quiet (fail)
  go_upto_region 3 with fail
  go_region
  go_wp2_with fail
  go_ret
  refine ⟨rfl, ?hs, ?hx⟩
  case hs => repeat (first | with_reducible exact HF.out.1 | with_reducible refine Chg.set ?_ _ _ | with_reducible refine Chg.drewN ?_ _ | with_reducible refine Chg.drew ?_)
  case hx =>
    apply box_to
    · repeat (first | with_reducible exact HF.out.2 | with_reducible apply Box.set | with_reducible apply Box.drewN | with_reducible apply Box.drew)
    · rfl

set_option maxRecDepth 100000 in
set_option maxHeartbeats 4000000 in
theorem rtt_ng (c : Cc) (s : Sm) (g : Nat) (w : World) (m1 : decide (0 < c.mr) = true) (m2 : (c.mr == 0) = false) (wr : IntKind.i64.wrap (c.ma + 10000000) = c.ma + 10000000) (o1 : decide (c.ma + 10000000 < s.nw) = false) (r1 : decide (0 < s.rt) = true) (r2 : decide (s.rt ≤ c.mr) = false) (hb : Box w g 48 (ccL c)) : Calls Tryd.prog 28 #[.pointer (some ⟨g, 0, none⟩), agv (smL s)] w fun e w' => e = .returned (.bool false) ∧ Chg w g w' ∧ Box w' g 48 (ccL c) := by
  have HF : Hid (Chg w g w ∧ Box w g 48 (ccL c)) := ⟨Chg.refl w g, hb⟩
  clear hb
  go_enter Tryd.func28, Tryd.ntmps28
  go_wp2_with (first | (refine wpS_box rfl rfl rfl ?_))
  intro X1 p HN
  have HG : Hid (Chg w g X1 ∧ Box X1 g 48 (ccL c)) := ⟨HF.out.1.later HF.out.2.lt HN.out.2.1, HF.out.2.later HN.out.2.1⟩
  have HS : Hid (Box X1 p 28 (smL s) ∧ g < p ∧ w.heap.size ≤ p) := ⟨HN.out.2.2, by have := HF.out.2.lt; rw [HN.out.1]; exact this, by rw [HN.out.1]; exact HF.out.1.size⟩
  clear HF HN
  have HF := HG
  clear HG
  have hne : p ≠ g := by have := HS.out.2.1; omega
  have hlp := HS.out.1.lt
  have k12 := Box.cell HF.out.2 12 rfl
  have k13 := Box.cell HF.out.2 13 rfl
  have j0 := Box.cell HS.out.1 0 rfl
  have j2 := Box.cell HS.out.1 2 rfl
  have fz := fun i => Box.frozen HF.out.2 i
  have hlt := HF.out.2.lt
  go_upto_region 1 with fail
  go_quiet (fail)
  go_upto_region 2 with fail
  go_quiet (fail)
  go_wp2_with fail
  go_ret
  refine ⟨rfl, ?hs, ?hx⟩
  case hs => repeat (first | with_reducible exact HF.out.1 | with_reducible refine Chg.set ?_ _ _ | with_reducible refine Chg.drewN ?_ _ | with_reducible refine Chg.drew ?_)
  case hx =>
    apply box_to
    · repeat (first | with_reducible exact HF.out.2 | with_reducible apply Box.set | with_reducible apply Box.drewN | with_reducible apply Box.drew)
    · rfl

theorem rtt_is (c : Cc) (s : Sm) (g : Nat) (hm : 0 ≤ c.mr) (ha : 0 ≤ c.ma ∧ c.ma ≤ 1125899906842624) (w : World) (hb : Box w g 48 (ccL c)) : Calls Tryd.prog 28 #[.pointer (some ⟨g, 0, none⟩), agv (smL s)] w fun e w' => e = .returned (.bool (oldB c s)) ∧ Chg w g w' ∧ Box w' g 48 (ccL (rttE c s)) := by
  have wr : IntKind.i64.wrap (c.ma + 10000000) = c.ma + 10000000 := by rw [IntKind.wrap_i64]; omega
  unfold rttE rttB
  by_cases h0 : c.mr = 0
  · have ho : oldB c s = false := decide_eq_false (by omega)
    have m1 : decide (0 < c.mr) = false := decide_eq_false (by omega)
    have m2 : (c.mr == 0) = true := by simpa using h0
    rw [ho]
    by_cases hr : 0 < s.rt
    · rw [if_pos (by simp [hr, h0])]; exact rtt_ag c s g w m1 m2 (decide_eq_true hr) hb
    · rw [if_neg (by simp [hr])]; exact rtt_az c s g w m1 m2 (decide_eq_false hr) hb
  · have m1 : decide (0 < c.mr) = true := decide_eq_true (by omega)
    have m2 : (c.mr == 0) = false := by simpa using h0
    by_cases h1 : c.ma + 10000000 < s.nw
    · have ho : oldB c s = true := decide_eq_true (by omega)
      rw [ho]
      by_cases hr : 0 < s.rt
      · rw [if_pos (by simp [hr])]
        by_cases hl : s.rt ≤ c.mr
        · exact rtt_ol c s g w m1 m2 wr (decide_eq_true h1) (decide_eq_true hr) (decide_eq_true hl) hb
        · exact rtt_og c s g w m1 m2 wr (decide_eq_true h1) (decide_eq_true hr) (decide_eq_false hl) hb
      · rw [if_neg (by simp [hr])]; exact rtt_oz c s g w m1 m2 wr (decide_eq_true h1) (decide_eq_false hr) hb
    · have ho : oldB c s = false := decide_eq_false (by omega)
      rw [ho]
      by_cases hr : 0 < s.rt
      · by_cases hl : s.rt ≤ c.mr
        · rw [if_pos (by simp [hr, hl])]; exact rtt_nl c s g w m1 m2 wr (decide_eq_false h1) (decide_eq_true hr) (decide_eq_true hl) hb
        · rw [if_neg (by simp [h0, hl])]; exact rtt_ng c s g w m1 m2 wr (decide_eq_false h1) (decide_eq_true hr) (decide_eq_false hl) hb
      · rw [if_neg (by simp [hr])]; exact rtt_nz c s g w m1 m2 wr (decide_eq_false h1) (decide_eq_false hr) hb
end Go.Proofs.YtagmighcofllhaaDoor

/- The contract of judgeGrowth. -/
namespace Go.Proofs.YtagmighcofllhaaDoor
open Go.ChangeShapes Go.WideShapes Go.ChangeAt Go.RowKit
set_option linter.unusedVariables false
set_option linter.unusedSimpArgs false

open Fil

set_option maxRecDepth 100000 in
set_option maxHeartbeats 4000000 in
theorem jdg_0 (c : Cc) (g : Nat) (w : World) (b : Int) (b0 : (b == 0) = true) (c1 : ∀ W, Chg w g W → Calls Tryd.prog 51 #[ccv c] W fun e w' => e = .returned (.int .i64 b) ∧ Below W.heap.size W w') (hb : Box w g 48 (ccL c)) : Calls Tryd.prog 29 #[.pointer (some ⟨g, 0, none⟩)] w fun e w' => e = .returned (.tuple #[]) ∧ Chg w g w' ∧ Box w' g 48 (ccL c) := by
  have HF : Hid (Chg w g w ∧ Box w g 48 (ccL c)) := ⟨Chg.refl w g, hb⟩
  clear hb
  go_enter Tryd.func29, Tryd.ntmps29
  have fz := fun i => Box.frozen HF.out.2 i
  have hlt := HF.out.2.lt
  clear fz hlt
  go_wp2_with (first | (refine wpC_load rfl isC48 rfl rfl HF.out.2 ?_))
  refine (c1 _ HF.out.1).mono ?_
  rintro e w2 ⟨rfl, hB⟩
  have HG : Hid (Chg w g w2 ∧ Box w2 g 48 (ccL c)) := ⟨HF.out.1.later HF.out.2.lt hB, HF.out.2.later hB⟩
  clear HF hB
  have HF := HG
  clear HG
  have k16 := Box.cell HF.out.2 16 rfl
  have k17 := Box.cell HF.out.2 17 rfl
  have k10 := Box.cell HF.out.2 10 rfl
  have fz := fun i => Box.frozen HF.out.2 i
  have hlt := HF.out.2.lt
  clear c1
  go_wp2_with fail
  go_end0
  refine ⟨rfl, ?hs, ?hx⟩
  case hs => repeat (first | with_reducible exact HF.out.1 | with_reducible refine Chg.set ?_ _ _ | with_reducible refine Chg.drewN ?_ _ | with_reducible refine Chg.drew ?_)
  case hx =>
    apply box_to
    · repeat (first | with_reducible exact HF.out.2 | with_reducible apply Box.set | with_reducible apply Box.drewN | with_reducible apply Box.drew)
    · rfl

set_option maxRecDepth 100000 in
set_option maxHeartbeats 4000000 in
theorem jdg_1 (c : Cc) (g : Nat) (w : World) (b : Int) (b0 : (b == 0) = false) (mu1 : IntKind.i64.wrap (100 * b) = 100 * b) (mu2 : IntKind.i64.wrap (125 * c.fu) = 125 * c.fu) (b1 : decide (125 * c.fu ≤ 100 * b) = true) (c1 : ∀ W, Chg w g W → Calls Tryd.prog 51 #[ccv c] W fun e w' => e = .returned (.int .i64 b) ∧ Below W.heap.size W w') (hb : Box w g 48 (ccL c)) : Calls Tryd.prog 29 #[.pointer (some ⟨g, 0, none⟩)] w fun e w' => e = .returned (.tuple #[]) ∧ Chg w g w' ∧ Box w' g 48 (ccL { c with fu := b, fc := 0 }) := by
  have HF : Hid (Chg w g w ∧ Box w g 48 (ccL c)) := ⟨Chg.refl w g, hb⟩
  clear hb
  go_enter Tryd.func29, Tryd.ntmps29
  have fz := fun i => Box.frozen HF.out.2 i
  have hlt := HF.out.2.lt
  clear fz hlt
  go_wp2_with (first | (refine wpC_load rfl isC48 rfl rfl HF.out.2 ?_))
  refine (c1 _ HF.out.1).mono ?_
  rintro e w2 ⟨rfl, hB⟩
  have HG : Hid (Chg w g w2 ∧ Box w2 g 48 (ccL c)) := ⟨HF.out.1.later HF.out.2.lt hB, HF.out.2.later hB⟩
  clear HF hB
  have HF := HG
  clear HG
  have k16 := Box.cell HF.out.2 16 rfl
  have k17 := Box.cell HF.out.2 17 rfl
  have k10 := Box.cell HF.out.2 10 rfl
  have fz := fun i => Box.frozen HF.out.2 i
  have hlt := HF.out.2.lt
  clear c1
  go_wp2_with fail
  go_end0
  refine ⟨rfl, ?hs, ?hx⟩
  case hs => repeat (first | with_reducible exact HF.out.1 | with_reducible refine Chg.set ?_ _ _ | with_reducible refine Chg.drewN ?_ _ | with_reducible refine Chg.drew ?_)
  case hx =>
    apply box_to
    · repeat (first | with_reducible exact HF.out.2 | with_reducible apply Box.set | with_reducible apply Box.drewN | with_reducible apply Box.drew)
    · rfl

set_option maxRecDepth 100000 in
set_option maxHeartbeats 4000000 in
theorem jdg_2 (c : Cc) (g : Nat) (w : World) (b : Int) (b0 : (b == 0) = false) (mu1 : IntKind.i64.wrap (100 * b) = 100 * b) (mu2 : IntKind.i64.wrap (125 * c.fu) = 125 * c.fu) (b1 : decide (125 * c.fu ≤ 100 * b) = false) (f1 : IntKind.i64.wrap (c.fc + 1) = c.fc + 1) (f2 : (if 3 < c.fc + 1 then 3 else c.fc + 1) = 3) (c1 : ∀ W, Chg w g W → Calls Tryd.prog 51 #[ccv c] W fun e w' => e = .returned (.int .i64 b) ∧ Below W.heap.size W w') (hb : Box w g 48 (ccL c)) : Calls Tryd.prog 29 #[.pointer (some ⟨g, 0, none⟩)] w fun e w' => e = .returned (.tuple #[]) ∧ Chg w g w' ∧ Box w' g 48 (ccL { c with fc := 3, md := 2 }) := by
  have HF : Hid (Chg w g w ∧ Box w g 48 (ccL c)) := ⟨Chg.refl w g, hb⟩
  clear hb
  go_enter Tryd.func29, Tryd.ntmps29
  have fz := fun i => Box.frozen HF.out.2 i
  have hlt := HF.out.2.lt
  clear fz hlt
  go_wp2_with (first | (refine wpC_load rfl isC48 rfl rfl HF.out.2 ?_))
  refine (c1 _ HF.out.1).mono ?_
  rintro e w2 ⟨rfl, hB⟩
  have HG : Hid (Chg w g w2 ∧ Box w2 g 48 (ccL c)) := ⟨HF.out.1.later HF.out.2.lt hB, HF.out.2.later hB⟩
  clear HF hB
  have HF := HG
  clear HG
  have k16 := Box.cell HF.out.2 16 rfl
  have k17 := Box.cell HF.out.2 17 rfl
  have k10 := Box.cell HF.out.2 10 rfl
  have fz := fun i => Box.frozen HF.out.2 i
  have hlt := HF.out.2.lt
  clear c1
  go_wp2_with fail
  go_end0
  refine ⟨rfl, ?hs, ?hx⟩
  case hs => repeat (first | with_reducible exact HF.out.1 | with_reducible refine Chg.set ?_ _ _ | with_reducible refine Chg.drewN ?_ _ | with_reducible refine Chg.drew ?_)
  case hx =>
    apply box_to
    · repeat (first | with_reducible exact HF.out.2 | with_reducible apply Box.set | with_reducible apply Box.drewN | with_reducible apply Box.drew)
    · rfl

set_option maxRecDepth 100000 in
set_option maxHeartbeats 4000000 in
theorem jdg_3 (c : Cc) (g : Nat) (w : World) (b : Int) (z : Int) (b0 : (b == 0) = false) (mu1 : IntKind.i64.wrap (100 * b) = 100 * b) (mu2 : IntKind.i64.wrap (125 * c.fu) = 125 * c.fu) (b1 : decide (125 * c.fu ≤ 100 * b) = false) (f1 : IntKind.i64.wrap (c.fc + 1) = c.fc + 1) (f2 : (if 3 < c.fc + 1 then 3 else c.fc + 1) = z) (f3 : (z == 3) = false) (c1 : ∀ W, Chg w g W → Calls Tryd.prog 51 #[ccv c] W fun e w' => e = .returned (.int .i64 b) ∧ Below W.heap.size W w') (hb : Box w g 48 (ccL c)) : Calls Tryd.prog 29 #[.pointer (some ⟨g, 0, none⟩)] w fun e w' => e = .returned (.tuple #[]) ∧ Chg w g w' ∧ Box w' g 48 (ccL { c with fc := z }) := by
  have HF : Hid (Chg w g w ∧ Box w g 48 (ccL c)) := ⟨Chg.refl w g, hb⟩
  clear hb
  go_enter Tryd.func29, Tryd.ntmps29
  have fz := fun i => Box.frozen HF.out.2 i
  have hlt := HF.out.2.lt
  clear fz hlt
  go_wp2_with (first | (refine wpC_load rfl isC48 rfl rfl HF.out.2 ?_))
  refine (c1 _ HF.out.1).mono ?_
  rintro e w2 ⟨rfl, hB⟩
  have HG : Hid (Chg w g w2 ∧ Box w2 g 48 (ccL c)) := ⟨HF.out.1.later HF.out.2.lt hB, HF.out.2.later hB⟩
  clear HF hB
  have HF := HG
  clear HG
  have k16 := Box.cell HF.out.2 16 rfl
  have k17 := Box.cell HF.out.2 17 rfl
  have k10 := Box.cell HF.out.2 10 rfl
  have fz := fun i => Box.frozen HF.out.2 i
  have hlt := HF.out.2.lt
  clear c1
  go_wp2_with fail
  go_end0
  refine ⟨rfl, ?hs, ?hx⟩
  case hs => repeat (first | with_reducible exact HF.out.1 | with_reducible refine Chg.set ?_ _ _ | with_reducible refine Chg.drewN ?_ _ | with_reducible refine Chg.drew ?_)
  case hx =>
    apply box_to
    · repeat (first | with_reducible exact HF.out.2 | with_reducible apply Box.set | with_reducible apply Box.drewN | with_reducible apply Box.drew)
    · rfl

theorem jdg_is (c : Cc) (g : Nat) (b : Int) (hb0 : 0 ≤ b ∧ b ≤ 1099511627776) (hf : 0 ≤ c.fu ∧ c.fu ≤ 1099511627776) (hc : 0 ≤ c.fc ∧ c.fc ≤ 3) (w : World) (c1 : ∀ W, Chg w g W → Calls Tryd.prog 51 #[ccv c] W fun e w' => e = .returned (.int .i64 b) ∧ Below W.heap.size W w') (hb : Box w g 48 (ccL c)) : Calls Tryd.prog 29 #[.pointer (some ⟨g, 0, none⟩)] w fun e w' => e = .returned (.tuple #[]) ∧ Chg w g w' ∧ Box w' g 48 (ccL (groE c b)) := by
  have mu1 : IntKind.i64.wrap (100 * b) = 100 * b := by rw [IntKind.wrap_i64]; omega
  have mu2 : IntKind.i64.wrap (125 * c.fu) = 125 * c.fu := by rw [IntKind.wrap_i64]; omega
  have f1 : IntKind.i64.wrap (c.fc + 1) = c.fc + 1 := by rw [IntKind.wrap_i64]; omega
  unfold groE
  by_cases h0 : b = 0
  · rw [if_pos h0]; exact jdg_0 c g w b (by simpa using h0) c1 hb
  · rw [if_neg h0]
    by_cases h1 : 125 * c.fu ≤ 100 * b
    · rw [if_pos h1]; exact jdg_1 c g w b (by simpa using h0) mu1 mu2 (decide_eq_true h1) c1 hb
    · rw [if_neg h1]
      by_cases h2 : 2 ≤ c.fc
      · rw [if_pos h2]; exact jdg_2 c g w b (by simpa using h0) mu1 mu2 (decide_eq_false h1) f1 (by split <;> omega) c1 hb
      · rw [if_neg h2]; exact jdg_3 c g w b _ (by simpa using h0) mu1 mu2 (decide_eq_false h1) f1 (by split <;> omega) (by simp; omega) c1 hb
end Go.Proofs.YtagmighcofllhaaDoor
