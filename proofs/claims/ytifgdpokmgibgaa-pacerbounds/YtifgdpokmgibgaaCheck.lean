/- The contract of Check. -/
import Derived.Test.YtifgdpokmgibgaaNear
namespace Go.Proofs.Ytifgdpokmgibgaa
open Go.ChangeShapes Go.WideShapes Go.ChangeAt Go.RowKit Go.Shelf
set_option linter.unusedVariables false
set_option linter.unusedSimpArgs false
attribute [local go_sem] Oper.semAt_some

def ce1O0 (ps : String) : Oper := { dst := some 3, op := .load 23 (.tmp 1), type := 23, pos := ps, after := #[], guard := none }
def ce1O1 (ps : String) : Oper := { dst := some 4, op := .load 23 (.tmp 1), type := 23, pos := ps, after := #[], guard := none }
def ce1O2 (ps : String) : Oper := { dst := some 5, op := .call { callee := .value (.func 29), args := #[.tmp 4], argTypes := #[23] }, type := 23, pos := ps, after := #[{ on := 1, ground := .data }], guard := none }
def ce1O3 (ps : String) : Oper := { dst := some 6, op := .binOp .neq 23 (.tmp 3) (.tmp 5) 23, type := 4, pos := ps, after := #[{ on := 0, ground := .data }, { on := 2, ground := .data }], guard := none }
def ce1 (ps : String) : Array Oper := #[ce1O0 ps, ce1O1 ps, ce1O2 ps, ce1O3 ps]
theorem ce1_0 (ps : String) : (ce1 ps)[0]? = some (ce1O0 ps) := rfl
theorem ce1_1 (ps : String) : (ce1 ps)[1]? = some (ce1O1 ps) := rfl
theorem ce1_2 (ps : String) : (ce1 ps)[2]? = some (ce1O2 ps) := rfl
theorem ce1_3 (ps : String) : (ce1 ps)[3]? = some (ce1O3 ps) := rfl
def ce1D : Nat → Option Tmp
  | 0 => some 3
  | 1 => some 4
  | 2 => some 5
  | 3 => some 6
  | _ => none
def ce1T (p : Pc) (g B0 : Nat) (WW : World) : Nat → Value
  | 0 => agv (pcL p)
  | 1 => agv (pcL p)
  | 2 => agv (pcL p)
  | 3 => .bool false
  | _ => undef
set_option maxRecDepth 100000 in
set_option maxHeartbeats 4000000 in
theorem ce1_reg {ps : String} {Q : Exit → Act → World → Prop} {a0 : Act} {W0 : World} (sz : a0.tmps.size = 7) (p : Pc) (g B0 : Nat) (WW : World)
    (e1 : a0.eval (.tmp 1) = .pointer (some ⟨g, 0, none⟩))
    (l0 : B0 ≤ g) (hS0 : Below B0 WW W0 ∧ Box W0 g 23 (pcL p) ∧ True) (c1 : ∀ W, Calls Try.prog 29 #[agv (pcL p)] W fun e w' => e = .returned (agv (pcL p)) ∧ Below W.heap.size W w') 
    (hfin : ∀ (T : Nat → Value) w, T 3 = .bool false → Below B0 WW w ∧ Box w g 23 (pcL p) ∧ True → Q .normal ((((a0.put (some 3) (T 0)).put (some 4) (T 1)).put (some 5) (T 2)).put (some 6) (T 3)) w) :
    (Code.region 1 (ce1 ps) true).wp Try.prog Q a0 W0 := by
  refine wp_region_dets (by kernel_rfl) 4 rfl ce1D ?_ (by decide) (ce1T p g B0 WW) (fun D w => Below B0 WW w ∧ Box w g 23 (pcL p) ∧ True) (fun D _ => ⟨hS0.1.drew, hS0.2.1, trivial⟩) ?_ (by rfl) (fun w D _ hSw => hfin (ce1T p g B0 WW) w rfl hSw)
  · intro jq t hj ht
    have : ∀ j, j < 4 → (ce1D j).all (· < 7) = true := by decide
    have := this jq hj
    rw [ht] at this
    rw [sz]
    simpa using this
  · intro iq o ho D a w hSw hDi hcl hs hel K hK
    have hin : iq < 4 := (Array.getElem?_eq_some_iff.1 ho).1
    match iq, hin, ho with
    | 0, _, ho =>
      obtain rfl := Option.some.inj (ho.symm.trans (ce1_0 ps))
      have u1 : a.eval (.tmp 1) = .pointer (some ⟨g, 0, none⟩) := (hel 1 (by decide)).trans e1
      exact op_valW (ce1_0 ps) rfl (v := agv (pcL p)) (run_loadS isS23 rfl u1 hSw.2.1) (hK w (fun D' _ _ => hSw))
    | 1, _, ho =>
      obtain rfl := Option.some.inj (ho.symm.trans (ce1_1 ps))
      have u1 : a.eval (.tmp 1) = .pointer (some ⟨g, 0, none⟩) := (hel 1 (by decide)).trans e1
      exact op_valW (ce1_1 ps) rfl (v := agv (pcL p)) (run_loadS isS23 rfl u1 hSw.2.1) (hK w (fun D' _ _ => hSw))
    | 2, _, ho =>
      obtain rfl := Option.some.inj (ho.symm.trans (ce1_2 ps))
      have s1 : a.eval (.tmp 4) = agv (pcL p) := hs 1 4 (by rfl) rfl
      exact op_enterW (ce1_2 ps) rfl (f := 29) (args := #[agv (pcL p)]) (by rw [run_call rfl enter29]; simp only [List.map_toArray, List.map_cons, List.map_nil, s1]; try rfl) ((c1 w).mono (fun e w' hh => ⟨_, hh.1, hK w' (fun D' _ _ => ⟨hSw.1.trans (hh.2.mono (Nat.le_trans l0 (Nat.le_of_lt hSw.2.1.lt))), hSw.2.1.later hh.2, trivial⟩)⟩))
    | 3, _, ho =>
      obtain rfl := Option.some.inj (ho.symm.trans (ce1_3 ps))
      have s0 : a.eval (.tmp 3) = agv (pcL p) := hs 0 3 (by rfl) rfl
      have s2 : a.eval (.tmp 5) = agv (pcL p) := hs 2 5 (by rfl) rfl
      exact op_valW (ce1_3 ps) rfl (v := .bool false) (run_cmpS rfl s0 s2 (.inr rfl) (cmpS p)) (hK w (fun D' _ _ => hSw))
    | iq + 4, hin, _ => exact absurd hin (by omega)

set_option maxRecDepth 100000 in
set_option maxHeartbeats 4000000 in
theorem chk_ce (p : Pc) (c1 : ∀ W, Calls Try.prog 29 #[agv (pcL p)] W fun e w' => e = .returned (agv (pcL p)) ∧ Below W.heap.size W w')  (w : World) : Calls Try.prog 17 #[agv (pcL p)] w fun e w' => e = .returned (.int .i64 0) ∧ Below w.heap.size w w' := by
  go_enter Try.func17, Try.ntmps17
  go_wp2_with (first | (refine wpS_box rfl rfl rfl ?_))
  intro X1 g HN
  have HX1 : Hid (Below w.heap.size w X1 ∧ Box X1 g 23 (pcL p) ∧ w.heap.size ≤ g ∧ True) := by
    have hb := Below.refl w.heap.size w
    obtain ⟨hg, hb2, bn⟩ := HN.out
    have hz := hb.size
    exact ⟨Below.on hb hb2, bn, by omega, trivial⟩
  clear HN 
  go_upto_region 1 with fail
  refine ce1_reg (by rfl) p g _ _  rfl (HX1.out.2.2.1) ⟨HX1.out.1, HX1.out.2.1, trivial⟩ c1 ?_
  intro T X2 hT hS
  simp only [Act.put, List.setIfInBounds_toArray, List.set_cons_zero, List.set_cons_succ]
  simp only [hT]
  have HX2 : Hid (Below w.heap.size w X2 ∧ Box X2 g 23 (pcL p) ∧ w.heap.size ≤ g ∧ True) := by
    obtain ⟨hb, b0, l0, _⟩ := HX1.out
    exact ⟨hS.1, hS.2.1, l0, trivial⟩
  clear hS hT HX1
  go_wp2_with fail
  go_ret
  exact ⟨rfl, HX2.out.1⟩
def cn1O0 (ps : String) : Oper := { dst := some 3, op := .load 23 (.tmp 1), type := 23, pos := ps, after := #[], guard := none }
def cn1O1 (ps : String) : Oper := { dst := some 4, op := .load 23 (.tmp 1), type := 23, pos := ps, after := #[], guard := none }
def cn1O2 (ps : String) : Oper := { dst := some 5, op := .call { callee := .value (.func 29), args := #[.tmp 4], argTypes := #[23] }, type := 23, pos := ps, after := #[{ on := 1, ground := .data }], guard := none }
def cn1O3 (ps : String) : Oper := { dst := some 6, op := .binOp .neq 23 (.tmp 3) (.tmp 5) 23, type := 4, pos := ps, after := #[{ on := 0, ground := .data }, { on := 2, ground := .data }], guard := none }
def cn1 (ps : String) : Array Oper := #[cn1O0 ps, cn1O1 ps, cn1O2 ps, cn1O3 ps]
theorem cn1_0 (ps : String) : (cn1 ps)[0]? = some (cn1O0 ps) := rfl
theorem cn1_1 (ps : String) : (cn1 ps)[1]? = some (cn1O1 ps) := rfl
theorem cn1_2 (ps : String) : (cn1 ps)[2]? = some (cn1O2 ps) := rfl
theorem cn1_3 (ps : String) : (cn1 ps)[3]? = some (cn1O3 ps) := rfl
def cn1D : Nat → Option Tmp
  | 0 => some 3
  | 1 => some 4
  | 2 => some 5
  | 3 => some 6
  | _ => none
def cn1T (p q : Pc) (g B0 : Nat) (WW : World) : Nat → Value
  | 0 => agv (pcL p)
  | 1 => agv (pcL p)
  | 2 => agv (pcL q)
  | 3 => .bool true
  | _ => undef
set_option maxRecDepth 100000 in
set_option maxHeartbeats 4000000 in
theorem cn1_reg {ps : String} {Q : Exit → Act → World → Prop} {a0 : Act} {W0 : World} (sz : a0.tmps.size = 7) (p q : Pc) (g B0 : Nat) (WW : World)
    (e1 : a0.eval (.tmp 1) = .pointer (some ⟨g, 0, none⟩))
    (l0 : B0 ≤ g) (hS0 : Below B0 WW W0 ∧ Box W0 g 23 (pcL p) ∧ True) (hpq : p ≠ q) (c1 : ∀ W, Calls Try.prog 29 #[agv (pcL p)] W fun e w' => e = .returned (agv (pcL q)) ∧ Below W.heap.size W w') 
    (hfin : ∀ (T : Nat → Value) w, T 3 = .bool true → Below B0 WW w ∧ Box w g 23 (pcL p) ∧ True → Q .normal ((((a0.put (some 3) (T 0)).put (some 4) (T 1)).put (some 5) (T 2)).put (some 6) (T 3)) w) :
    (Code.region 1 (cn1 ps) true).wp Try.prog Q a0 W0 := by
  refine wp_region_dets (by kernel_rfl) 4 rfl cn1D ?_ (by decide) (cn1T p q g B0 WW) (fun D w => Below B0 WW w ∧ Box w g 23 (pcL p) ∧ True) (fun D _ => ⟨hS0.1.drew, hS0.2.1, trivial⟩) ?_ (by rfl) (fun w D _ hSw => hfin (cn1T p q g B0 WW) w rfl hSw)
  · intro jq t hj ht
    have : ∀ j, j < 4 → (cn1D j).all (· < 7) = true := by decide
    have := this jq hj
    rw [ht] at this
    rw [sz]
    simpa using this
  · intro iq o ho D a w hSw hDi hcl hs hel K hK
    have hin : iq < 4 := (Array.getElem?_eq_some_iff.1 ho).1
    match iq, hin, ho with
    | 0, _, ho =>
      obtain rfl := Option.some.inj (ho.symm.trans (cn1_0 ps))
      have u1 : a.eval (.tmp 1) = .pointer (some ⟨g, 0, none⟩) := (hel 1 (by decide)).trans e1
      exact op_valW (cn1_0 ps) rfl (v := agv (pcL p)) (run_loadS isS23 rfl u1 hSw.2.1) (hK w (fun D' _ _ => hSw))
    | 1, _, ho =>
      obtain rfl := Option.some.inj (ho.symm.trans (cn1_1 ps))
      have u1 : a.eval (.tmp 1) = .pointer (some ⟨g, 0, none⟩) := (hel 1 (by decide)).trans e1
      exact op_valW (cn1_1 ps) rfl (v := agv (pcL p)) (run_loadS isS23 rfl u1 hSw.2.1) (hK w (fun D' _ _ => hSw))
    | 2, _, ho =>
      obtain rfl := Option.some.inj (ho.symm.trans (cn1_2 ps))
      have s1 : a.eval (.tmp 4) = agv (pcL p) := hs 1 4 (by rfl) rfl
      exact op_enterW (cn1_2 ps) rfl (f := 29) (args := #[agv (pcL p)]) (by rw [run_call rfl enter29]; simp only [List.map_toArray, List.map_cons, List.map_nil, s1]; try rfl) ((c1 w).mono (fun e w' hh => ⟨_, hh.1, hK w' (fun D' _ _ => ⟨hSw.1.trans (hh.2.mono (Nat.le_trans l0 (Nat.le_of_lt hSw.2.1.lt))), hSw.2.1.later hh.2, trivial⟩)⟩))
    | 3, _, ho =>
      obtain rfl := Option.some.inj (ho.symm.trans (cn1_3 ps))
      have s0 : a.eval (.tmp 3) = agv (pcL p) := hs 0 3 (by rfl) rfl
      have s2 : a.eval (.tmp 5) = agv (pcL q) := hs 2 5 (by rfl) rfl
      exact op_valW (cn1_3 ps) rfl (v := .bool true) (run_cmpS rfl s0 s2 (.inr rfl) (cmpN hpq)) (hK w (fun D' _ _ => hSw))
    | iq + 4, hin, _ => exact absurd hin (by omega)

set_option maxRecDepth 100000 in
set_option maxHeartbeats 4000000 in
theorem chk_cn (p q : Pc) (hpq : p ≠ q) (c1 : ∀ W, Calls Try.prog 29 #[agv (pcL p)] W fun e w' => e = .returned (agv (pcL q)) ∧ Below W.heap.size W w')  (w : World) : Calls Try.prog 17 #[agv (pcL p)] w fun e w' => e = .returned (.int .i64 230) ∧ Below w.heap.size w w' := by
  go_enter Try.func17, Try.ntmps17
  go_wp2_with (first | (refine wpS_box rfl rfl rfl ?_))
  intro X1 g HN
  have HX1 : Hid (Below w.heap.size w X1 ∧ Box X1 g 23 (pcL p) ∧ w.heap.size ≤ g ∧ True) := by
    have hb := Below.refl w.heap.size w
    obtain ⟨hg, hb2, bn⟩ := HN.out
    have hz := hb.size
    exact ⟨Below.on hb hb2, bn, by omega, trivial⟩
  clear HN 
  go_upto_region 1 with fail
  refine cn1_reg (by rfl) p q g _ _  rfl (HX1.out.2.2.1) ⟨HX1.out.1, HX1.out.2.1, trivial⟩ hpq c1 ?_
  intro T X2 hT hS
  simp only [Act.put, List.setIfInBounds_toArray, List.set_cons_zero, List.set_cons_succ]
  simp only [hT]
  have HX2 : Hid (Below w.heap.size w X2 ∧ Box X2 g 23 (pcL p) ∧ w.heap.size ≤ g ∧ True) := by
    obtain ⟨hb, b0, l0, _⟩ := HX1.out
    exact ⟨hS.1, hS.2.1, l0, trivial⟩
  clear hS hT HX1
  go_wp2_with fail
  go_ret
  exact ⟨rfl, HX2.out.1⟩

theorem chk_is (p : Pc) {r : Int} (hr : chkE p = r) (w : World) : Calls Try.prog 17 #[agv (pcL p)] w fun e w' => e = .returned (.int .i64 r) ∧ Below w.heap.size w w' := by
  subst hr
  unfold chkE
  cases k : okB p with
  | true =>
    rw [if_pos rfl]
    refine chk_ce p (fun W => ?_) w
    have := near_is p W
    rwa [near_ok (ok_out k)] at this
  | false =>
    rw [if_neg (by simp)]
    exact chk_cn p (nearP p) (near_no (ok_no k)) (fun W => near_is p W) w
end Go.Proofs.Ytifgdpokmgibgaa
