/- The walk of WindowWaits. -/
import Derived.Test.YtliiogafemlagaaHeads
import Derived.Test.YtliiogafemlagaaDets
namespace Go.Proofs.Ytliiogafemlagaa
open Go.ChangeShapes Go.WideShapes Go.ChangeAt Go.RowKit Go.Shelf
set_option linter.unusedVariables false
set_option linter.unusedSimpArgs false
attribute [local go_sem] Oper.semAt_some

def ww4O0 (ps : String) : Oper := { dst := some 38, op := .load 23 (.tmp 4), type := 23, pos := ps, after := #[], guard := none }
def ww4O1 (ps : String) : Oper := { dst := some 39, op := .move (.tmp 1), type := 3, pos := ps, after := #[], guard := none }
def ww4O2 (ps : String) : Oper := { dst := some 40, op := .move (.tmp 2), type := 3, pos := ps, after := #[], guard := none }
def ww4O3 (ps : String) : Oper := { dst := some 41, op := .move (.tmp 3), type := 3, pos := ps, after := #[], guard := none }
def ww4O4 (ps : String) : Oper := { dst := some 42, op := .call { callee := .value (.func 21), args := #[.tmp 38, .tmp 39, .tmp 40, .tmp 41], argTypes := #[23, 3, 3, 3] }, type := 3, pos := ps, after := #[{ on := 0, ground := .data }, { on := 1, ground := .data }, { on := 2, ground := .data }, { on := 3, ground := .data }], guard := none }
def ww4O5 (ps : String) : Oper := { dst := some 43, op := .load 23 (.tmp 9), type := 23, pos := ps, after := #[], guard := none }
def ww4O6 (ps : String) : Oper := { dst := some 44, op := .move (.tmp 1), type := 3, pos := ps, after := #[], guard := none }
def ww4O7 (ps : String) : Oper := { dst := some 45, op := .move (.tmp 2), type := 3, pos := ps, after := #[], guard := none }
def ww4O8 (ps : String) : Oper := { dst := some 46, op := .move (.tmp 3), type := 3, pos := ps, after := #[], guard := none }
def ww4O9 (ps : String) : Oper := { dst := some 47, op := .call { callee := .value (.func 21), args := #[.tmp 43, .tmp 44, .tmp 45, .tmp 46], argTypes := #[23, 3, 3, 3] }, type := 3, pos := ps, after := #[{ on := 5, ground := .data }, { on := 6, ground := .data }, { on := 7, ground := .data }, { on := 8, ground := .data }, { on := 4, ground := .chain }], guard := none }
def ww4O10 (ps : String) : Oper := { dst := some 11, op := .assign (.tmp 42), type := 3, pos := ps, after := #[{ on := 4, ground := .data }, { on := 9, ground := .chain }, { on := 0, ground := .phase }, { on := 1, ground := .phase }, { on := 2, ground := .phase }, { on := 3, ground := .phase }, { on := 4, ground := .phase }, { on := 5, ground := .textOnly .lateStores }, { on := 6, ground := .textOnly .lateStores }, { on := 7, ground := .textOnly .lateStores }, { on := 8, ground := .textOnly .lateStores }, { on := 9, ground := .textOnly .lateStoresUnsure }], guard := none }
def ww4O11 (ps : String) : Oper := { dst := some 12, op := .assign (.tmp 47), type := 3, pos := ps, after := #[{ on := 9, ground := .data }, { on := 10, ground := .chain }, { on := 0, ground := .phase }, { on := 1, ground := .phase }, { on := 2, ground := .phase }, { on := 3, ground := .phase }, { on := 4, ground := .phase }, { on := 5, ground := .phase }, { on := 6, ground := .phase }, { on := 7, ground := .phase }, { on := 8, ground := .phase }, { on := 9, ground := .phase }, { on := 10, ground := .phase }], guard := none }
def ww4 (ps : String) : Array Oper := #[ww4O0 ps, ww4O1 ps, ww4O2 ps, ww4O3 ps, ww4O4 ps, ww4O5 ps, ww4O6 ps, ww4O7 ps, ww4O8 ps, ww4O9 ps, ww4O10 ps, ww4O11 ps]
theorem ww4_0 (ps : String) : (ww4 ps)[0]? = some (ww4O0 ps) := rfl
theorem ww4_1 (ps : String) : (ww4 ps)[1]? = some (ww4O1 ps) := rfl
theorem ww4_2 (ps : String) : (ww4 ps)[2]? = some (ww4O2 ps) := rfl
theorem ww4_3 (ps : String) : (ww4 ps)[3]? = some (ww4O3 ps) := rfl
theorem ww4_4 (ps : String) : (ww4 ps)[4]? = some (ww4O4 ps) := rfl
theorem ww4_5 (ps : String) : (ww4 ps)[5]? = some (ww4O5 ps) := rfl
theorem ww4_6 (ps : String) : (ww4 ps)[6]? = some (ww4O6 ps) := rfl
theorem ww4_7 (ps : String) : (ww4 ps)[7]? = some (ww4O7 ps) := rfl
theorem ww4_8 (ps : String) : (ww4 ps)[8]? = some (ww4O8 ps) := rfl
theorem ww4_9 (ps : String) : (ww4 ps)[9]? = some (ww4O9 ps) := rfl
theorem ww4_10 (ps : String) : (ww4 ps)[10]? = some (ww4O10 ps) := rfl
theorem ww4_11 (ps : String) : (ww4 ps)[11]? = some (ww4O11 ps) := rfl
def ww4D : Nat → Option Tmp
  | 0 => some 38
  | 1 => some 39
  | 2 => some 40
  | 3 => some 41
  | 4 => some 42
  | 5 => some 43
  | 6 => some 44
  | 7 => some 45
  | 8 => some 46
  | 9 => some 47
  | 10 => some 11
  | 11 => some 12
  | _ => none
def ww4T (p q : Wn) (x y z u v : Int) (gp gt B0 : Nat) (WW : World) : Nat → Value
  | 0 => agv (wnL p)
  | 1 => .int .i64 x
  | 2 => .int .i64 y
  | 3 => .int .i64 z
  | 4 => .int .i64 u
  | 5 => agv (wnL q)
  | 6 => .int .i64 x
  | 7 => .int .i64 y
  | 8 => .int .i64 z
  | 9 => .int .i64 v
  | 10 => .int .i64 u
  | 11 => .int .i64 v
  | _ => undef
set_option maxRecDepth 100000 in
set_option maxHeartbeats 4000000 in
theorem ww4_reg {ps : String} {Q : Exit → Act → World → Prop} {a0 : Act} {W0 : World} (sz : a0.tmps.size = 75) (p q : Wn) (x y z u v : Int) (gp gt B0 : Nat) (WW : World)
    (e4 : a0.eval (.tmp 4) = .pointer (some ⟨gp, 0, none⟩)) (e9 : a0.eval (.tmp 9) = .pointer (some ⟨gt, 0, none⟩)) (e1 : a0.eval (.tmp 1) = .int .i64 x) (e2 : a0.eval (.tmp 2) = .int .i64 y) (e3 : a0.eval (.tmp 3) = .int .i64 z)
    (l0 : B0 ≤ gp) (l1 : gp < gt) (hS0 : Below B0 WW W0 ∧ Box W0 gp 23 (wnL p) ∧ Box W0 gt 23 (wnL q) ∧ True) (c2 : ∀ W, Calls Try.prog 21 #[agv (wnL p), .int .i64 x, .int .i64 y, .int .i64 z] W fun e w' => e = .returned (.int .i64 u) ∧ Below W.heap.size W w') (c3 : ∀ W, Calls Try.prog 21 #[agv (wnL q), .int .i64 x, .int .i64 y, .int .i64 z] W fun e w' => e = .returned (.int .i64 v) ∧ Below W.heap.size W w') 
    (hfin : ∀ (T : Nat → Value) w, T 10 = .int .i64 u → T 11 = .int .i64 v → Below B0 WW w ∧ Box w gp 23 (wnL p) ∧ Box w gt 23 (wnL q) ∧ True → Q .normal ((((((((((((a0.put (some 38) (T 0)).put (some 39) (T 1)).put (some 40) (T 2)).put (some 41) (T 3)).put (some 42) (T 4)).put (some 43) (T 5)).put (some 44) (T 6)).put (some 45) (T 7)).put (some 46) (T 8)).put (some 47) (T 9)).put (some 11) (T 10)).put (some 12) (T 11)) w) :
    (Code.region 4 (ww4 ps) true).wp Try.prog Q a0 W0 := by
  refine wp_region_dets (by kernel_rfl) 12 rfl ww4D ?_ (by decide) (ww4T p q x y z u v gp gt B0 WW) (fun D w => Below B0 WW w ∧ Box w gp 23 (wnL p) ∧ Box w gt 23 (wnL q) ∧ True) (fun D _ => ⟨hS0.1.drew, hS0.2.1, hS0.2.2.1, trivial⟩) ?_ (by rfl) (fun w D _ hSw => hfin (ww4T p q x y z u v gp gt B0 WW) w rfl rfl hSw)
  · intro jq t hj ht
    have : ∀ j, j < 12 → (ww4D j).all (· < 75) = true := by decide
    have := this jq hj
    rw [ht] at this
    rw [sz]
    simpa using this
  · intro iq o ho D a w hSw hDi hcl hs hel K hK
    have hin : iq < 12 := (Array.getElem?_eq_some_iff.1 ho).1
    match iq, hin, ho with
    | 0, _, ho =>
      obtain rfl := Option.some.inj (ho.symm.trans (ww4_0 ps))
      have u4 : a.eval (.tmp 4) = .pointer (some ⟨gp, 0, none⟩) := (hel 4 (by decide)).trans e4
      exact op_valW (ww4_0 ps) rfl (v := agv (wnL p)) (run_loadS isS23 rfl u4 hSw.2.1) (hK w (fun D' _ _ => hSw))
    | 1, _, ho =>
      obtain rfl := Option.some.inj (ho.symm.trans (ww4_1 ps))
      have u1 : a.eval (.tmp 1) = .int .i64 x := (hel 1 (by decide)).trans e1
      exact op_valW (ww4_1 ps) rfl (v := .int .i64 x) (by unfold ww4O1 execOp; simp only [u1]; first | (go_simp; done) | (go_simp; with_reducible rfl)) (hK w (fun D' _ _ => hSw))
    | 2, _, ho =>
      obtain rfl := Option.some.inj (ho.symm.trans (ww4_2 ps))
      have u2 : a.eval (.tmp 2) = .int .i64 y := (hel 2 (by decide)).trans e2
      exact op_valW (ww4_2 ps) rfl (v := .int .i64 y) (by unfold ww4O2 execOp; simp only [u2]; first | (go_simp; done) | (go_simp; with_reducible rfl)) (hK w (fun D' _ _ => hSw))
    | 3, _, ho =>
      obtain rfl := Option.some.inj (ho.symm.trans (ww4_3 ps))
      have u3 : a.eval (.tmp 3) = .int .i64 z := (hel 3 (by decide)).trans e3
      exact op_valW (ww4_3 ps) rfl (v := .int .i64 z) (by unfold ww4O3 execOp; simp only [u3]; first | (go_simp; done) | (go_simp; with_reducible rfl)) (hK w (fun D' _ _ => hSw))
    | 4, _, ho =>
      obtain rfl := Option.some.inj (ho.symm.trans (ww4_4 ps))
      have s0 : a.eval (.tmp 38) = agv (wnL p) := hs 0 38 (by rfl) rfl
      have s1 : a.eval (.tmp 39) = .int .i64 x := hs 1 39 (by rfl) rfl
      have s2 : a.eval (.tmp 40) = .int .i64 y := hs 2 40 (by rfl) rfl
      have s3 : a.eval (.tmp 41) = .int .i64 z := hs 3 41 (by rfl) rfl
      exact op_enterW (ww4_4 ps) rfl (f := 21) (args := #[agv (wnL p), .int .i64 x, .int .i64 y, .int .i64 z]) (by rw [run_call rfl enter21]; simp only [List.map_toArray, List.map_cons, List.map_nil, s0, s1, s2, s3]; try rfl) ((c2 w).mono (fun e w' hh => ⟨_, hh.1, hK w' (fun D' _ _ => ⟨hSw.1.trans (hh.2.mono (Nat.le_trans l0 (Nat.le_of_lt hSw.2.1.lt))), hSw.2.1.later hh.2, hSw.2.2.1.later hh.2, trivial⟩)⟩))
    | 5, _, ho =>
      obtain rfl := Option.some.inj (ho.symm.trans (ww4_5 ps))
      have u9 : a.eval (.tmp 9) = .pointer (some ⟨gt, 0, none⟩) := (hel 9 (by decide)).trans e9
      exact op_valW (ww4_5 ps) rfl (v := agv (wnL q)) (run_loadS isS23 rfl u9 hSw.2.2.1) (hK w (fun D' _ _ => hSw))
    | 6, _, ho =>
      obtain rfl := Option.some.inj (ho.symm.trans (ww4_6 ps))
      have u1 : a.eval (.tmp 1) = .int .i64 x := (hel 1 (by decide)).trans e1
      exact op_valW (ww4_6 ps) rfl (v := .int .i64 x) (by unfold ww4O6 execOp; simp only [u1]; first | (go_simp; done) | (go_simp; with_reducible rfl)) (hK w (fun D' _ _ => hSw))
    | 7, _, ho =>
      obtain rfl := Option.some.inj (ho.symm.trans (ww4_7 ps))
      have u2 : a.eval (.tmp 2) = .int .i64 y := (hel 2 (by decide)).trans e2
      exact op_valW (ww4_7 ps) rfl (v := .int .i64 y) (by unfold ww4O7 execOp; simp only [u2]; first | (go_simp; done) | (go_simp; with_reducible rfl)) (hK w (fun D' _ _ => hSw))
    | 8, _, ho =>
      obtain rfl := Option.some.inj (ho.symm.trans (ww4_8 ps))
      have u3 : a.eval (.tmp 3) = .int .i64 z := (hel 3 (by decide)).trans e3
      exact op_valW (ww4_8 ps) rfl (v := .int .i64 z) (by unfold ww4O8 execOp; simp only [u3]; first | (go_simp; done) | (go_simp; with_reducible rfl)) (hK w (fun D' _ _ => hSw))
    | 9, _, ho =>
      obtain rfl := Option.some.inj (ho.symm.trans (ww4_9 ps))
      have s5 : a.eval (.tmp 43) = agv (wnL q) := hs 5 43 (by rfl) rfl
      have s6 : a.eval (.tmp 44) = .int .i64 x := hs 6 44 (by rfl) rfl
      have s7 : a.eval (.tmp 45) = .int .i64 y := hs 7 45 (by rfl) rfl
      have s8 : a.eval (.tmp 46) = .int .i64 z := hs 8 46 (by rfl) rfl
      exact op_enterW (ww4_9 ps) rfl (f := 21) (args := #[agv (wnL q), .int .i64 x, .int .i64 y, .int .i64 z]) (by rw [run_call rfl enter21]; simp only [List.map_toArray, List.map_cons, List.map_nil, s5, s6, s7, s8]; try rfl) ((c3 w).mono (fun e w' hh => ⟨_, hh.1, hK w' (fun D' _ _ => ⟨hSw.1.trans (hh.2.mono (Nat.le_trans l0 (Nat.le_of_lt hSw.2.1.lt))), hSw.2.1.later hh.2, hSw.2.2.1.later hh.2, trivial⟩)⟩))
    | 10, _, ho =>
      obtain rfl := Option.some.inj (ho.symm.trans (ww4_10 ps))
      have s4 : a.eval (.tmp 42) = .int .i64 u := hs 4 42 (by rfl) rfl
      exact op_valW (ww4_10 ps) rfl (v := .int .i64 u) (by unfold ww4O10 execOp; simp only [s4]; first | (go_simp; done) | (go_simp; with_reducible rfl)) (hK w (fun D' _ _ => hSw))
    | 11, _, ho =>
      obtain rfl := Option.some.inj (ho.symm.trans (ww4_11 ps))
      have s9 : a.eval (.tmp 47) = .int .i64 v := hs 9 47 (by rfl) rfl
      exact op_valW (ww4_11 ps) rfl (v := .int .i64 v) (by unfold ww4O11 execOp; simp only [s9]; first | (go_simp; done) | (go_simp; with_reducible rfl)) (hK w (fun D' _ _ => hSw))
    | iq + 12, hin, _ => exact absurd hin (by omega)

set_option maxRecDepth 100000 in
set_option maxHeartbeats 4000000 in
theorem waits_0 (p q : Wn) (x y z r : Int) (h : (r != 0) = true) (c1 : ∀ W, Calls Try.prog 13 #[agv (wnL p)] W fun e w' => e = .returned (.tuple #[agv (wnL q), .int .i64 r]) ∧ Below W.heap.size W w') (hd : ∀ W, Calls Try.prog 9 #[] W fun e w' => e = .returned (.bool true) ∧ Below W.heap.size W w') (w : World) : Calls Try.prog 7 #[agv (wnL p), .int .i64 x, .int .i64 y, .int .i64 z] w fun e w' => e = .returned (.bool true) ∧ Below w.heap.size w w' := by
  go_enter Try.func7, Try.ntmps7
  go_wp2_with (first | (refine wpS_box rfl rfl rfl ?_))
  intro X1 gp HN
  have HX1 : Hid (Below w.heap.size w X1 ∧ Box X1 gp 23 (wnL p) ∧ w.heap.size ≤ gp ∧ True) := by
    have hb := Below.refl w.heap.size w
    obtain ⟨hg, hb2, bn⟩ := HN.out
    have hz := hb.size
    exact ⟨Below.on hb hb2, bn, by omega, trivial⟩
  clear HN 
  go_wp2_with (first | (refine wpS_load rfl rfl rfl (HX1.out.2.1) isS23 ?_) | fail)
  refine (c1 _).mono ?_
  rintro e w2 ⟨rfl, hB⟩
  have HX2 : Hid (Below w.heap.size w w2 ∧ Box w2 gp 23 (wnL p) ∧ w.heap.size ≤ gp ∧ True) := by
    obtain ⟨hb, b0, l0, _⟩ := HX1.out
    exact ⟨Below.on hb hB, b0.later hB, l0, trivial⟩
  clear hB HX1
  go_wp2_with (first | (refine wpS_alloc rfl rfl zero23 ?_))
  intro X3 gt HN
  have HX3 : Hid (Below w.heap.size w X3 ∧ Box X3 gp 23 (wnL p) ∧ Box X3 gt 23 (wnL wnZ) ∧ w.heap.size ≤ gp ∧ gp < gt ∧ True) := by
    obtain ⟨hb, b0, l0, _⟩ := HX2.out
    obtain ⟨hg, hb2, bn⟩ := HN.out
    have z0 := b0.lt
    exact ⟨Below.on hb hb2, b0.later hb2, bn, l0, by omega, trivial⟩
  clear HN HX2
  go_wp2_with (first | (refine wpS_store rfl rfl rfl rfl rfl (HX3.out.2.2.1) rfl isS23 (wnL_one _) ?_))
  intro X4 HN
  have HX4 : Hid (Below w.heap.size w X4 ∧ Box X4 gp 23 (wnL p) ∧ Box X4 gt 23 (wnL q) ∧ w.heap.size ≤ gp ∧ gp < gt ∧ True) := by
    obtain ⟨hb, b0, b1, l0, l1, _⟩ := HX3.out
    obtain ⟨st, bn⟩ := HN.out
    exact ⟨st.below _ _ (by omega) hb, b0.sto st (by omega), bn, l0, l1, trivial⟩
  clear HN HX3
  go_wp2_with fail
  refine (hd _).mono ?_
  rintro e w5 ⟨rfl, hB⟩
  have HX5 : Hid (Below w.heap.size w w5 ∧ Box w5 gp 23 (wnL p) ∧ Box w5 gt 23 (wnL q) ∧ w.heap.size ≤ gp ∧ gp < gt ∧ True) := by
    obtain ⟨hb, b0, b1, l0, l1, _⟩ := HX4.out
    exact ⟨Below.on hb hB, b0.later hB, b1.later hB, l0, l1, trivial⟩
  clear hB HX4
  go_wp2_with fail
  go_ret
  exact ⟨rfl, HX5.out.1⟩

set_option maxRecDepth 100000 in
set_option maxHeartbeats 4000000 in
theorem waits_1 (p q : Wn) (x y z : Int) (h0 : decide (x < 0) = true) (c1 : ∀ W, Calls Try.prog 13 #[agv (wnL p)] W fun e w' => e = .returned (.tuple #[agv (wnL q), .int .i64 0]) ∧ Below W.heap.size W w') (hd : ∀ W, Calls Try.prog 9 #[] W fun e w' => e = .returned (.bool true) ∧ Below W.heap.size W w') (w : World) : Calls Try.prog 7 #[agv (wnL p), .int .i64 x, .int .i64 y, .int .i64 z] w fun e w' => e = .returned (.bool true) ∧ Below w.heap.size w w' := by
  go_enter Try.func7, Try.ntmps7
  go_wp2_with (first | (refine wpS_box rfl rfl rfl ?_))
  intro X1 gp HN
  have HX1 : Hid (Below w.heap.size w X1 ∧ Box X1 gp 23 (wnL p) ∧ w.heap.size ≤ gp ∧ True) := by
    have hb := Below.refl w.heap.size w
    obtain ⟨hg, hb2, bn⟩ := HN.out
    have hz := hb.size
    exact ⟨Below.on hb hb2, bn, by omega, trivial⟩
  clear HN 
  go_wp2_with (first | (refine wpS_load rfl rfl rfl (HX1.out.2.1) isS23 ?_) | fail)
  refine (c1 _).mono ?_
  rintro e w2 ⟨rfl, hB⟩
  have HX2 : Hid (Below w.heap.size w w2 ∧ Box w2 gp 23 (wnL p) ∧ w.heap.size ≤ gp ∧ True) := by
    obtain ⟨hb, b0, l0, _⟩ := HX1.out
    exact ⟨Below.on hb hB, b0.later hB, l0, trivial⟩
  clear hB HX1
  go_wp2_with (first | (refine wpS_alloc rfl rfl zero23 ?_))
  intro X3 gt HN
  have HX3 : Hid (Below w.heap.size w X3 ∧ Box X3 gp 23 (wnL p) ∧ Box X3 gt 23 (wnL wnZ) ∧ w.heap.size ≤ gp ∧ gp < gt ∧ True) := by
    obtain ⟨hb, b0, l0, _⟩ := HX2.out
    obtain ⟨hg, hb2, bn⟩ := HN.out
    have z0 := b0.lt
    exact ⟨Below.on hb hb2, b0.later hb2, bn, l0, by omega, trivial⟩
  clear HN HX2
  go_wp2_with (first | (refine wpS_store rfl rfl rfl rfl rfl (HX3.out.2.2.1) rfl isS23 (wnL_one _) ?_))
  intro X4 HN
  have HX4 : Hid (Below w.heap.size w X4 ∧ Box X4 gp 23 (wnL p) ∧ Box X4 gt 23 (wnL q) ∧ w.heap.size ≤ gp ∧ gp < gt ∧ True) := by
    obtain ⟨hb, b0, b1, l0, l1, _⟩ := HX3.out
    obtain ⟨st, bn⟩ := HN.out
    exact ⟨st.below _ _ (by omega) hb, b0.sto st (by omega), bn, l0, l1, trivial⟩
  clear HN HX3
  go_wp2_with fail
  refine (hd _).mono ?_
  rintro e w5 ⟨rfl, hB⟩
  have HX5 : Hid (Below w.heap.size w w5 ∧ Box w5 gp 23 (wnL p) ∧ Box w5 gt 23 (wnL q) ∧ w.heap.size ≤ gp ∧ gp < gt ∧ True) := by
    obtain ⟨hb, b0, b1, l0, l1, _⟩ := HX4.out
    exact ⟨Below.on hb hB, b0.later hB, b1.later hB, l0, l1, trivial⟩
  clear hB HX4
  go_wp2_with fail
  go_ret
  exact ⟨rfl, HX5.out.1⟩

set_option maxRecDepth 100000 in
set_option maxHeartbeats 4000000 in
theorem waits_2 (p q : Wn) (x y z : Int) (h0 : decide (x < 0) = false) (h1 : decide (y < 0) = true) (c1 : ∀ W, Calls Try.prog 13 #[agv (wnL p)] W fun e w' => e = .returned (.tuple #[agv (wnL q), .int .i64 0]) ∧ Below W.heap.size W w') (hd : ∀ W, Calls Try.prog 9 #[] W fun e w' => e = .returned (.bool true) ∧ Below W.heap.size W w') (w : World) : Calls Try.prog 7 #[agv (wnL p), .int .i64 x, .int .i64 y, .int .i64 z] w fun e w' => e = .returned (.bool true) ∧ Below w.heap.size w w' := by
  go_enter Try.func7, Try.ntmps7
  go_wp2_with (first | (refine wpS_box rfl rfl rfl ?_))
  intro X1 gp HN
  have HX1 : Hid (Below w.heap.size w X1 ∧ Box X1 gp 23 (wnL p) ∧ w.heap.size ≤ gp ∧ True) := by
    have hb := Below.refl w.heap.size w
    obtain ⟨hg, hb2, bn⟩ := HN.out
    have hz := hb.size
    exact ⟨Below.on hb hb2, bn, by omega, trivial⟩
  clear HN 
  go_wp2_with (first | (refine wpS_load rfl rfl rfl (HX1.out.2.1) isS23 ?_) | fail)
  refine (c1 _).mono ?_
  rintro e w2 ⟨rfl, hB⟩
  have HX2 : Hid (Below w.heap.size w w2 ∧ Box w2 gp 23 (wnL p) ∧ w.heap.size ≤ gp ∧ True) := by
    obtain ⟨hb, b0, l0, _⟩ := HX1.out
    exact ⟨Below.on hb hB, b0.later hB, l0, trivial⟩
  clear hB HX1
  go_wp2_with (first | (refine wpS_alloc rfl rfl zero23 ?_))
  intro X3 gt HN
  have HX3 : Hid (Below w.heap.size w X3 ∧ Box X3 gp 23 (wnL p) ∧ Box X3 gt 23 (wnL wnZ) ∧ w.heap.size ≤ gp ∧ gp < gt ∧ True) := by
    obtain ⟨hb, b0, l0, _⟩ := HX2.out
    obtain ⟨hg, hb2, bn⟩ := HN.out
    have z0 := b0.lt
    exact ⟨Below.on hb hb2, b0.later hb2, bn, l0, by omega, trivial⟩
  clear HN HX2
  go_wp2_with (first | (refine wpS_store rfl rfl rfl rfl rfl (HX3.out.2.2.1) rfl isS23 (wnL_one _) ?_))
  intro X4 HN
  have HX4 : Hid (Below w.heap.size w X4 ∧ Box X4 gp 23 (wnL p) ∧ Box X4 gt 23 (wnL q) ∧ w.heap.size ≤ gp ∧ gp < gt ∧ True) := by
    obtain ⟨hb, b0, b1, l0, l1, _⟩ := HX3.out
    obtain ⟨st, bn⟩ := HN.out
    exact ⟨st.below _ _ (by omega) hb, b0.sto st (by omega), bn, l0, l1, trivial⟩
  clear HN HX3
  go_wp2_with fail
  refine (hd _).mono ?_
  rintro e w5 ⟨rfl, hB⟩
  have HX5 : Hid (Below w.heap.size w w5 ∧ Box w5 gp 23 (wnL p) ∧ Box w5 gt 23 (wnL q) ∧ w.heap.size ≤ gp ∧ gp < gt ∧ True) := by
    obtain ⟨hb, b0, b1, l0, l1, _⟩ := HX4.out
    exact ⟨Below.on hb hB, b0.later hB, b1.later hB, l0, l1, trivial⟩
  clear hB HX4
  go_wp2_with fail
  go_ret
  exact ⟨rfl, HX5.out.1⟩

set_option maxRecDepth 100000 in
set_option maxHeartbeats 4000000 in
theorem waits_3 (p q : Wn) (x y z : Int) (h0 : decide (x < 0) = false) (h1 : decide (y < 0) = false) (h2 : decide (z < y) = true) (c1 : ∀ W, Calls Try.prog 13 #[agv (wnL p)] W fun e w' => e = .returned (.tuple #[agv (wnL q), .int .i64 0]) ∧ Below W.heap.size W w') (hd : ∀ W, Calls Try.prog 9 #[] W fun e w' => e = .returned (.bool true) ∧ Below W.heap.size W w') (w : World) : Calls Try.prog 7 #[agv (wnL p), .int .i64 x, .int .i64 y, .int .i64 z] w fun e w' => e = .returned (.bool true) ∧ Below w.heap.size w w' := by
  go_enter Try.func7, Try.ntmps7
  go_wp2_with (first | (refine wpS_box rfl rfl rfl ?_))
  intro X1 gp HN
  have HX1 : Hid (Below w.heap.size w X1 ∧ Box X1 gp 23 (wnL p) ∧ w.heap.size ≤ gp ∧ True) := by
    have hb := Below.refl w.heap.size w
    obtain ⟨hg, hb2, bn⟩ := HN.out
    have hz := hb.size
    exact ⟨Below.on hb hb2, bn, by omega, trivial⟩
  clear HN 
  go_wp2_with (first | (refine wpS_load rfl rfl rfl (HX1.out.2.1) isS23 ?_) | fail)
  refine (c1 _).mono ?_
  rintro e w2 ⟨rfl, hB⟩
  have HX2 : Hid (Below w.heap.size w w2 ∧ Box w2 gp 23 (wnL p) ∧ w.heap.size ≤ gp ∧ True) := by
    obtain ⟨hb, b0, l0, _⟩ := HX1.out
    exact ⟨Below.on hb hB, b0.later hB, l0, trivial⟩
  clear hB HX1
  go_wp2_with (first | (refine wpS_alloc rfl rfl zero23 ?_))
  intro X3 gt HN
  have HX3 : Hid (Below w.heap.size w X3 ∧ Box X3 gp 23 (wnL p) ∧ Box X3 gt 23 (wnL wnZ) ∧ w.heap.size ≤ gp ∧ gp < gt ∧ True) := by
    obtain ⟨hb, b0, l0, _⟩ := HX2.out
    obtain ⟨hg, hb2, bn⟩ := HN.out
    have z0 := b0.lt
    exact ⟨Below.on hb hb2, b0.later hb2, bn, l0, by omega, trivial⟩
  clear HN HX2
  go_wp2_with (first | (refine wpS_store rfl rfl rfl rfl rfl (HX3.out.2.2.1) rfl isS23 (wnL_one _) ?_))
  intro X4 HN
  have HX4 : Hid (Below w.heap.size w X4 ∧ Box X4 gp 23 (wnL p) ∧ Box X4 gt 23 (wnL q) ∧ w.heap.size ≤ gp ∧ gp < gt ∧ True) := by
    obtain ⟨hb, b0, b1, l0, l1, _⟩ := HX3.out
    obtain ⟨st, bn⟩ := HN.out
    exact ⟨st.below _ _ (by omega) hb, b0.sto st (by omega), bn, l0, l1, trivial⟩
  clear HN HX3
  go_wp2_with fail
  refine (hd _).mono ?_
  rintro e w5 ⟨rfl, hB⟩
  have HX5 : Hid (Below w.heap.size w w5 ∧ Box w5 gp 23 (wnL p) ∧ Box w5 gt 23 (wnL q) ∧ w.heap.size ≤ gp ∧ gp < gt ∧ True) := by
    obtain ⟨hb, b0, b1, l0, l1, _⟩ := HX4.out
    exact ⟨Below.on hb hB, b0.later hB, b1.later hB, l0, l1, trivial⟩
  clear hB HX4
  go_wp2_with fail
  go_ret
  exact ⟨rfl, HX5.out.1⟩

set_option maxRecDepth 100000 in
set_option maxHeartbeats 4000000 in
theorem waits_4 (p q : Wn) (x y z : Int) (h0 : decide (x < 0) = false) (h1 : decide (y < 0) = false) (h2 : decide (z < y) = false) (h3 : decide (1125899906842624 < z) = true) (c1 : ∀ W, Calls Try.prog 13 #[agv (wnL p)] W fun e w' => e = .returned (.tuple #[agv (wnL q), .int .i64 0]) ∧ Below W.heap.size W w') (hd : ∀ W, Calls Try.prog 9 #[] W fun e w' => e = .returned (.bool true) ∧ Below W.heap.size W w') (w : World) : Calls Try.prog 7 #[agv (wnL p), .int .i64 x, .int .i64 y, .int .i64 z] w fun e w' => e = .returned (.bool true) ∧ Below w.heap.size w w' := by
  go_enter Try.func7, Try.ntmps7
  go_wp2_with (first | (refine wpS_box rfl rfl rfl ?_))
  intro X1 gp HN
  have HX1 : Hid (Below w.heap.size w X1 ∧ Box X1 gp 23 (wnL p) ∧ w.heap.size ≤ gp ∧ True) := by
    have hb := Below.refl w.heap.size w
    obtain ⟨hg, hb2, bn⟩ := HN.out
    have hz := hb.size
    exact ⟨Below.on hb hb2, bn, by omega, trivial⟩
  clear HN 
  go_wp2_with (first | (refine wpS_load rfl rfl rfl (HX1.out.2.1) isS23 ?_) | fail)
  refine (c1 _).mono ?_
  rintro e w2 ⟨rfl, hB⟩
  have HX2 : Hid (Below w.heap.size w w2 ∧ Box w2 gp 23 (wnL p) ∧ w.heap.size ≤ gp ∧ True) := by
    obtain ⟨hb, b0, l0, _⟩ := HX1.out
    exact ⟨Below.on hb hB, b0.later hB, l0, trivial⟩
  clear hB HX1
  go_wp2_with (first | (refine wpS_alloc rfl rfl zero23 ?_))
  intro X3 gt HN
  have HX3 : Hid (Below w.heap.size w X3 ∧ Box X3 gp 23 (wnL p) ∧ Box X3 gt 23 (wnL wnZ) ∧ w.heap.size ≤ gp ∧ gp < gt ∧ True) := by
    obtain ⟨hb, b0, l0, _⟩ := HX2.out
    obtain ⟨hg, hb2, bn⟩ := HN.out
    have z0 := b0.lt
    exact ⟨Below.on hb hb2, b0.later hb2, bn, l0, by omega, trivial⟩
  clear HN HX2
  go_wp2_with (first | (refine wpS_store rfl rfl rfl rfl rfl (HX3.out.2.2.1) rfl isS23 (wnL_one _) ?_))
  intro X4 HN
  have HX4 : Hid (Below w.heap.size w X4 ∧ Box X4 gp 23 (wnL p) ∧ Box X4 gt 23 (wnL q) ∧ w.heap.size ≤ gp ∧ gp < gt ∧ True) := by
    obtain ⟨hb, b0, b1, l0, l1, _⟩ := HX3.out
    obtain ⟨st, bn⟩ := HN.out
    exact ⟨st.below _ _ (by omega) hb, b0.sto st (by omega), bn, l0, l1, trivial⟩
  clear HN HX3
  go_wp2_with fail
  refine (hd _).mono ?_
  rintro e w5 ⟨rfl, hB⟩
  have HX5 : Hid (Below w.heap.size w w5 ∧ Box w5 gp 23 (wnL p) ∧ Box w5 gt 23 (wnL q) ∧ w.heap.size ≤ gp ∧ gp < gt ∧ True) := by
    obtain ⟨hb, b0, b1, l0, l1, _⟩ := HX4.out
    exact ⟨Below.on hb hB, b0.later hB, b1.later hB, l0, l1, trivial⟩
  clear hB HX4
  go_wp2_with fail
  go_ret
  exact ⟨rfl, HX5.out.1⟩

set_option maxRecDepth 100000 in
set_option maxHeartbeats 4000000 in
theorem waits_a (p q : Wn) (x y z u v : Int) (h0 : decide (x < 0) = false) (h1 : decide (y < 0) = false) (h2 : decide (z < y) = false) (h3 : decide (1125899906842624 < z) = false) (c1 : ∀ W, Calls Try.prog 13 #[agv (wnL p)] W fun e w' => e = .returned (.tuple #[agv (wnL q), .int .i64 0]) ∧ Below W.heap.size W w') (c2 : ∀ W, Calls Try.prog 21 #[agv (wnL p), .int .i64 x, .int .i64 y, .int .i64 z] W fun e w' => e = .returned (.int .i64 u) ∧ Below W.heap.size W w') (c3 : ∀ W, Calls Try.prog 21 #[agv (wnL q), .int .i64 x, .int .i64 y, .int .i64 z] W fun e w' => e = .returned (.int .i64 v) ∧ Below W.heap.size W w') (e1 : decide (y ≤ u) = true) (e2 : decide (v ≤ z) = true) (e3 : decide (u ≤ v) = true) (hw : IntKind.i64.wrap (2 * u) = 2 * u) (e4 : decide (v ≤ 2 * u) = true) (hd : ∀ W, Calls Try.prog 9 #[] W fun e w' => e = .returned (.bool true) ∧ Below W.heap.size W w') (w : World) : Calls Try.prog 7 #[agv (wnL p), .int .i64 x, .int .i64 y, .int .i64 z] w fun e w' => e = .returned (.bool true) ∧ Below w.heap.size w w' := by
  go_enter Try.func7, Try.ntmps7
  go_wp2_with (first | (refine wpS_box rfl rfl rfl ?_))
  intro X1 gp HN
  have HX1 : Hid (Below w.heap.size w X1 ∧ Box X1 gp 23 (wnL p) ∧ w.heap.size ≤ gp ∧ True) := by
    have hb := Below.refl w.heap.size w
    obtain ⟨hg, hb2, bn⟩ := HN.out
    have hz := hb.size
    exact ⟨Below.on hb hb2, bn, by omega, trivial⟩
  clear HN 
  go_wp2_with (first | (refine wpS_load rfl rfl rfl (HX1.out.2.1) isS23 ?_) | fail)
  refine (c1 _).mono ?_
  rintro e w2 ⟨rfl, hB⟩
  have HX2 : Hid (Below w.heap.size w w2 ∧ Box w2 gp 23 (wnL p) ∧ w.heap.size ≤ gp ∧ True) := by
    obtain ⟨hb, b0, l0, _⟩ := HX1.out
    exact ⟨Below.on hb hB, b0.later hB, l0, trivial⟩
  clear hB HX1
  go_wp2_with (first | (refine wpS_alloc rfl rfl zero23 ?_))
  intro X3 gt HN
  have HX3 : Hid (Below w.heap.size w X3 ∧ Box X3 gp 23 (wnL p) ∧ Box X3 gt 23 (wnL wnZ) ∧ w.heap.size ≤ gp ∧ gp < gt ∧ True) := by
    obtain ⟨hb, b0, l0, _⟩ := HX2.out
    obtain ⟨hg, hb2, bn⟩ := HN.out
    have z0 := b0.lt
    exact ⟨Below.on hb hb2, b0.later hb2, bn, l0, by omega, trivial⟩
  clear HN HX2
  go_wp2_with (first | (refine wpS_store rfl rfl rfl rfl rfl (HX3.out.2.2.1) rfl isS23 (wnL_one _) ?_))
  intro X4 HN
  have HX4 : Hid (Below w.heap.size w X4 ∧ Box X4 gp 23 (wnL p) ∧ Box X4 gt 23 (wnL q) ∧ w.heap.size ≤ gp ∧ gp < gt ∧ True) := by
    obtain ⟨hb, b0, b1, l0, l1, _⟩ := HX3.out
    obtain ⟨st, bn⟩ := HN.out
    exact ⟨st.below _ _ (by omega) hb, b0.sto st (by omega), bn, l0, l1, trivial⟩
  clear HN HX3
  go_upto_region 4 with fail
  refine ww4_reg (by rfl) p q x y z u v gp gt _ _  rfl rfl rfl rfl rfl (HX4.out.2.2.2.1) (HX4.out.2.2.2.2.1) ⟨HX4.out.1, HX4.out.2.1, HX4.out.2.2.1, trivial⟩ c2 c3 ?_
  intro T X5 hT hT2 hS
  simp only [Act.put, List.setIfInBounds_toArray, List.set_cons_zero, List.set_cons_succ]
  simp only [hT, hT2]
  have HX5 : Hid (Below w.heap.size w X5 ∧ Box X5 gp 23 (wnL p) ∧ Box X5 gt 23 (wnL q) ∧ w.heap.size ≤ gp ∧ gp < gt ∧ True) := by
    obtain ⟨hb, b0, b1, l0, l1, _⟩ := HX4.out
    exact ⟨hS.1, hS.2.1, hS.2.2.1, l0, l1, trivial⟩
  clear hS hT hT2 HX4
  go_wp2_with fail
  refine (hd _).mono ?_
  rintro e w6 ⟨rfl, hB⟩
  have HX6 : Hid (Below w.heap.size w w6 ∧ Box w6 gp 23 (wnL p) ∧ Box w6 gt 23 (wnL q) ∧ w.heap.size ≤ gp ∧ gp < gt ∧ True) := by
    obtain ⟨hb, b0, b1, l0, l1, _⟩ := HX5.out
    exact ⟨Below.on hb hB, b0.later hB, b1.later hB, l0, l1, trivial⟩
  clear hB HX5
  go_wp2_with fail
  go_ret
  exact ⟨rfl, HX6.out.1⟩

set_option maxRecDepth 100000 in
set_option maxHeartbeats 4000000 in
theorem waits_b (p q : Wn) (x y z u v : Int) (h0 : decide (x < 0) = false) (h1 : decide (y < 0) = false) (h2 : decide (z < y) = false) (h3 : decide (1125899906842624 < z) = false) (c1 : ∀ W, Calls Try.prog 13 #[agv (wnL p)] W fun e w' => e = .returned (.tuple #[agv (wnL q), .int .i64 0]) ∧ Below W.heap.size W w') (c2 : ∀ W, Calls Try.prog 21 #[agv (wnL p), .int .i64 x, .int .i64 y, .int .i64 z] W fun e w' => e = .returned (.int .i64 u) ∧ Below W.heap.size W w') (c3 : ∀ W, Calls Try.prog 21 #[agv (wnL q), .int .i64 x, .int .i64 y, .int .i64 z] W fun e w' => e = .returned (.int .i64 v) ∧ Below W.heap.size W w') (e1 : decide (y ≤ u) = true) (e2 : decide (v ≤ z) = true) (e3 : decide (u ≤ v) = true) (hw : IntKind.i64.wrap (2 * u) = 2 * u) (e4 : decide (v ≤ 2 * u) = false) (e5 : (v == y) = true) (hd : ∀ W, Calls Try.prog 9 #[] W fun e w' => e = .returned (.bool true) ∧ Below W.heap.size W w') (w : World) : Calls Try.prog 7 #[agv (wnL p), .int .i64 x, .int .i64 y, .int .i64 z] w fun e w' => e = .returned (.bool true) ∧ Below w.heap.size w w' := by
  go_enter Try.func7, Try.ntmps7
  go_wp2_with (first | (refine wpS_box rfl rfl rfl ?_))
  intro X1 gp HN
  have HX1 : Hid (Below w.heap.size w X1 ∧ Box X1 gp 23 (wnL p) ∧ w.heap.size ≤ gp ∧ True) := by
    have hb := Below.refl w.heap.size w
    obtain ⟨hg, hb2, bn⟩ := HN.out
    have hz := hb.size
    exact ⟨Below.on hb hb2, bn, by omega, trivial⟩
  clear HN 
  go_wp2_with (first | (refine wpS_load rfl rfl rfl (HX1.out.2.1) isS23 ?_) | fail)
  refine (c1 _).mono ?_
  rintro e w2 ⟨rfl, hB⟩
  have HX2 : Hid (Below w.heap.size w w2 ∧ Box w2 gp 23 (wnL p) ∧ w.heap.size ≤ gp ∧ True) := by
    obtain ⟨hb, b0, l0, _⟩ := HX1.out
    exact ⟨Below.on hb hB, b0.later hB, l0, trivial⟩
  clear hB HX1
  go_wp2_with (first | (refine wpS_alloc rfl rfl zero23 ?_))
  intro X3 gt HN
  have HX3 : Hid (Below w.heap.size w X3 ∧ Box X3 gp 23 (wnL p) ∧ Box X3 gt 23 (wnL wnZ) ∧ w.heap.size ≤ gp ∧ gp < gt ∧ True) := by
    obtain ⟨hb, b0, l0, _⟩ := HX2.out
    obtain ⟨hg, hb2, bn⟩ := HN.out
    have z0 := b0.lt
    exact ⟨Below.on hb hb2, b0.later hb2, bn, l0, by omega, trivial⟩
  clear HN HX2
  go_wp2_with (first | (refine wpS_store rfl rfl rfl rfl rfl (HX3.out.2.2.1) rfl isS23 (wnL_one _) ?_))
  intro X4 HN
  have HX4 : Hid (Below w.heap.size w X4 ∧ Box X4 gp 23 (wnL p) ∧ Box X4 gt 23 (wnL q) ∧ w.heap.size ≤ gp ∧ gp < gt ∧ True) := by
    obtain ⟨hb, b0, b1, l0, l1, _⟩ := HX3.out
    obtain ⟨st, bn⟩ := HN.out
    exact ⟨st.below _ _ (by omega) hb, b0.sto st (by omega), bn, l0, l1, trivial⟩
  clear HN HX3
  go_upto_region 4 with fail
  refine ww4_reg (by rfl) p q x y z u v gp gt _ _  rfl rfl rfl rfl rfl (HX4.out.2.2.2.1) (HX4.out.2.2.2.2.1) ⟨HX4.out.1, HX4.out.2.1, HX4.out.2.2.1, trivial⟩ c2 c3 ?_
  intro T X5 hT hT2 hS
  simp only [Act.put, List.setIfInBounds_toArray, List.set_cons_zero, List.set_cons_succ]
  simp only [hT, hT2]
  have HX5 : Hid (Below w.heap.size w X5 ∧ Box X5 gp 23 (wnL p) ∧ Box X5 gt 23 (wnL q) ∧ w.heap.size ≤ gp ∧ gp < gt ∧ True) := by
    obtain ⟨hb, b0, b1, l0, l1, _⟩ := HX4.out
    exact ⟨hS.1, hS.2.1, hS.2.2.1, l0, l1, trivial⟩
  clear hS hT hT2 HX4
  go_wp2_with fail
  refine (hd _).mono ?_
  rintro e w6 ⟨rfl, hB⟩
  have HX6 : Hid (Below w.heap.size w w6 ∧ Box w6 gp 23 (wnL p) ∧ Box w6 gt 23 (wnL q) ∧ w.heap.size ≤ gp ∧ gp < gt ∧ True) := by
    obtain ⟨hb, b0, b1, l0, l1, _⟩ := HX5.out
    exact ⟨Below.on hb hB, b0.later hB, b1.later hB, l0, l1, trivial⟩
  clear hB HX5
  go_wp2_with fail
  go_ret
  exact ⟨rfl, HX6.out.1⟩

theorem waits_eq (p : Wn) (x y z : Int) (hk : okB p = true) (hx : 0 ≤ x) (hy : 0 ≤ y) (hyz : y ≤ z) (hz : z ≤ 1125899906842624) :
    y ≤ waiI p x y z ∧ waiI p x y z ≤ z ∧ waiI (triQ p) x y z ≤ z ∧ waiI p x y z ≤ waiI (triQ p) x y z ∧ (waiI (triQ p) x y z ≤ 2 * waiI p x y z ∨ waiI (triQ p) x y z = y) := by
  have ho := ok_out hk
  unfold Ok at ho
  have hq : triQ p = ⟨p.un, p.sz, p.ed, p.l1, p.l2, p.mo, min (p.tr + 1) 100⟩ := by unfold triQ; rw [if_pos hk]
  have hqk : okB (triQ p) = true := by rw [hq]; exact ok_in (by unfold Ok; simp only; omega)
  unfold waiI
  rw [if_pos hk, if_pos hqk, hq]
  simp only
  obtain ⟨t, ht⟩ : ∃ t, min x 1125899906842624 = t := ⟨_, rfl⟩
  rw [ht]
  have hd : dblI t p.tr ≤ dblI t (min (p.tr + 1) 100) ∧ dblI t (min (p.tr + 1) 100) ≤ 2 * dblI t p.tr := by
    unfold dblI
    by_cases h0 : t ≤ 0
    · rw [if_pos h0, if_pos h0]; omega
    · rw [if_neg h0, if_neg h0]
      have hb := itD_bd (t := t) ⟨by omega, by omega⟩ p.tr.toNat
      by_cases h1 : p.tr = 100
      · rw [show min (p.tr + 1) 100 = p.tr by omega]; omega
      · rw [show (min (p.tr + 1) 100).toNat = p.tr.toNat + 1 by omega]
        show itD p.tr.toNat t ≤ min (2 * itD p.tr.toNat t) 1125899906842624 ∧ min (2 * itD p.tr.toNat t) 1125899906842624 ≤ 2 * itD p.tr.toNat t
        omega
  obtain ⟨d, hd1⟩ : ∃ d, dblI t p.tr = d := ⟨_, rfl⟩
  obtain ⟨e, he1⟩ : ∃ e, dblI t (min (p.tr + 1) 100) = e := ⟨_, rfl⟩
  rw [hd1, he1] at hd ⊢
  have c1 : clampI d y z = if d < y then y else if z < d then z else d := by unfold clampI; rw [if_neg (show ¬ z < y by omega)]
  have c2 : clampI e y z = if e < y then y else if z < e then z else e := by unfold clampI; rw [if_neg (show ¬ z < y by omega)]
  rw [c1, c2]
  by_cases a1 : d < y
  · by_cases a2 : e < y
    · rw [if_pos a1, if_pos a2]; omega
    · by_cases a3 : z < e
      · rw [if_pos a1, if_neg a2, if_pos a3]; omega
      · rw [if_pos a1, if_neg a2, if_neg a3]; omega
  · by_cases a4 : z < d
    · rw [if_neg a1, if_pos a4, if_neg (show ¬ e < y by omega), if_pos (show z < e by omega)]; omega
    · by_cases a3 : z < e
      · rw [if_neg a1, if_neg a4, if_neg (show ¬ e < y by omega), if_pos a3]; omega
      · rw [if_neg a1, if_neg a4, if_neg (show ¬ e < y by omega), if_neg a3]; omega
theorem waits_walk (p : Wn) (x y z : Int) (w : World) (hp : WnI p) (h1 : I64 x) (h2 : I64 y) (h3 : I64 z) : Calls Try.prog 7 #[agv (wnL p), .int .i64 x, .int .i64 y, .int .i64 z] w fun e w' => e = .returned (.bool true) ∧ Below w.heap.size w w' := by
  have c1 := fun W => tri_is p rfl rfl W
  by_cases he : chkE p = 0
  · rw [he] at c1
    have hk : okB p = true := by
      cases k : okB p with
      | true => rfl
      | false => unfold chkE at he; rw [k] at he; simp at he
    cases d0 : decide (x < 0) with
    | true => exact waits_1 p _ x y z d0 c1 heads_is w
    | false =>
    cases d1 : decide (y < 0) with
    | true => exact waits_2 p _ x y z d0 d1 c1 heads_is w
    | false =>
    cases d2 : decide (z < y) with
    | true => exact waits_3 p _ x y z d0 d1 d2 c1 heads_is w
    | false =>
    cases d3 : decide (1125899906842624 < z) with
    | true => exact waits_4 p _ x y z d0 d1 d2 d3 c1 heads_is w
    | false =>
    have k0 := of_decide_eq_false d0
    have k1 := of_decide_eq_false d1
    have k2 := of_decide_eq_false d2
    have k3 := of_decide_eq_false d3
    obtain ⟨f1, f2, f3, f4, f5⟩ := waits_eq p x y z hk (by omega) (by omega) (by omega) (by omega)
    have c2 := fun W => wai_is p x y z rfl W
    have c3 := fun W => wai_is (triQ p) x y z rfl W
    have hw : IntKind.i64.wrap (2 * waiI p x y z) = 2 * waiI p x y z := by rw [IntKind.wrap_i64]; omega
    by_cases f6 : waiI (triQ p) x y z ≤ 2 * waiI p x y z
    · exact waits_a p _ x y z _ _ d0 d1 d2 d3 c1 c2 c3 (decide_eq_true f1) (decide_eq_true f3) (decide_eq_true f4) hw (decide_eq_true f6) heads_is w
    · exact waits_b p _ x y z _ _ d0 d1 d2 d3 c1 c2 c3 (decide_eq_true f1) (decide_eq_true f3) (decide_eq_true f4) hw (decide_eq_false f6) (by simpa using f5.resolve_left f6) heads_is w
  · exact waits_0 p _ x y z _ (by simpa using he) c1 heads_is w
end Go.Proofs.Ytliiogafemlagaa
