/- The contract of nearest. -/
import Derived.Test.YtifgdpokmgibgaaDets
import Derived.Test.YtifgdpokmgibgaaEq
namespace Go.Proofs.Ytifgdpokmgibgaa
open Go.ChangeShapes Go.WideShapes Go.ChangeAt Go.RowKit Go.Shelf
set_option linter.unusedVariables false
set_option linter.unusedSimpArgs false
attribute [local go_sem] Oper.semAt_some

def nr3O0 (ps : String) : Oper := { dst := some 11, op := .fieldAddr 23 (.tmp 1) 2, type := 0, pos := ps, after := #[], guard := none }
def nr3O1 (ps : String) : Oper := { dst := some 12, op := .load 3 (.tmp 11), type := 3, pos := ps, after := #[{ on := 0, ground := .data }], guard := none }
def nr3O2 (ps : String) : Oper := { dst := some 13, op := .load 23 (.tmp 1), type := 23, pos := ps, after := #[], guard := none }
def nr3O3 (ps : String) : Oper := { dst := some 14, op := .call { callee := .value (.func 25), args := #[.tmp 13], argTypes := #[23] }, type := 23, pos := ps, after := #[{ on := 2, ground := .data }], guard := none }
def nr3O4 (ps : String) : Oper := { dst := some 15, op := .field 23 (.tmp 14) 2, type := 3, pos := ps, after := #[{ on := 3, ground := .data }], guard := none }
def nr3O5 (ps : String) : Oper := { dst := some 16, op := .call { callee := .value (.func 33), args := #[.tmp 12, .const (.int .i64 (-1073741824000000)), .tmp 15], argTypes := #[3, 3, 3] }, type := 3, pos := ps, after := #[{ on := 1, ground := .data }, { on := 4, ground := .data }, { on := 3, ground := .chain }], guard := none }
def nr3O6 (ps : String) : Oper := { dst := some 17, op := .fieldAddr 23 (.tmp 1) 2, type := 0, pos := ps, after := #[{ on := 0, ground := .phase }, { on := 1, ground := .phase }, { on := 2, ground := .phase }, { on := 3, ground := .phase }, { on := 4, ground := .phase }, { on := 5, ground := .phase }], guard := none }
def nr3O7 (ps : String) : Oper := { dst := none, op := .store 3 (.tmp 17) (.tmp 16), type := 0, pos := ps, after := #[{ on := 6, ground := .data }, { on := 5, ground := .data }, { on := 5, ground := .chain }, { on := 0, ground := .phase }, { on := 1, ground := .phase }, { on := 2, ground := .phase }, { on := 3, ground := .phase }, { on := 4, ground := .phase }, { on := 5, ground := .phase }], guard := none }
def nr3 (ps : String) : Array Oper := #[nr3O0 ps, nr3O1 ps, nr3O2 ps, nr3O3 ps, nr3O4 ps, nr3O5 ps, nr3O6 ps, nr3O7 ps]
theorem nr3_0 (ps : String) : (nr3 ps)[0]? = some (nr3O0 ps) := rfl
theorem nr3_1 (ps : String) : (nr3 ps)[1]? = some (nr3O1 ps) := rfl
theorem nr3_2 (ps : String) : (nr3 ps)[2]? = some (nr3O2 ps) := rfl
theorem nr3_3 (ps : String) : (nr3 ps)[3]? = some (nr3O3 ps) := rfl
theorem nr3_4 (ps : String) : (nr3 ps)[4]? = some (nr3O4 ps) := rfl
theorem nr3_5 (ps : String) : (nr3 ps)[5]? = some (nr3O5 ps) := rfl
theorem nr3_6 (ps : String) : (nr3 ps)[6]? = some (nr3O6 ps) := rfl
theorem nr3_7 (ps : String) : (nr3 ps)[7]? = some (nr3O7 ps) := rfl
def nr3D : Nat → Option Tmp
  | 0 => some 11
  | 1 => some 12
  | 2 => some 13
  | 3 => some 14
  | 4 => some 15
  | 5 => some 16
  | 6 => some 17
  | 7 => none
  | _ => none
def nr3T (p : Pc) (za zb zc zf : Int) (g r B0 : Nat) (WW : World) : Nat → Value
  | 0 => .pointer (some ⟨g, 2, none⟩)
  | 1 => .int .i64 p.t
  | 2 => agv (pcL ⟨za, zb, p.t, p.l⟩)
  | 3 => agv (pcL ⟨za, zb, zf, p.l⟩)
  | 4 => .int .i64 zf
  | 5 => .int .i64 zc
  | 6 => .pointer (some ⟨g, 2, none⟩)
  | 7 => undef
  | _ => undef
set_option maxRecDepth 100000 in
set_option maxHeartbeats 4000000 in
theorem nr3_reg {ps : String} {Q : Exit → Act → World → Prop} {a0 : Act} {W0 : World} (sz : a0.tmps.size = 23) (p : Pc) (za zb zc zf : Int) (g r B0 : Nat) (WW : World)
    (e1 : a0.eval (.tmp 1) = .pointer (some ⟨g, 0, none⟩))
    (l0 : B0 ≤ g) (l1 : g < r) (hS0 : Below B0 WW W0 ∧ Box W0 g 23 (pcL ⟨za, zb, (if false = true then zc else p.t), p.l⟩) ∧ Box W0 r 23 (pcL pcZ) ∧ True) (c3 : ∀ W, Calls Try.prog 25 #[agv (pcL ⟨za, zb, p.t, p.l⟩)] W fun e w' => e = .returned (agv (pcL ⟨za, zb, zf, p.l⟩)) ∧ Below W.heap.size W w') (c4 : ∀ W, Calls Try.prog 33 #[.int .i64 p.t, .int .i64 (-1073741824000000), .int .i64 zf] W fun e w' => e = .returned (.int .i64 zc) ∧ Below W.heap.size W w') 
    (hfin : ∀ (T : Nat → Value) w, Below B0 WW w ∧ Box w g 23 (pcL ⟨za, zb, zc, p.l⟩) ∧ Box w r 23 (pcL pcZ) ∧ True → Q .normal (((((((a0.put (some 11) (T 0)).put (some 12) (T 1)).put (some 13) (T 2)).put (some 14) (T 3)).put (some 15) (T 4)).put (some 16) (T 5)).put (some 17) (T 6)) w) :
    (Code.region 3 (nr3 ps) true).wp Try.prog Q a0 W0 := by
  refine wp_region_dets (by kernel_rfl) 8 rfl nr3D ?_ (by decide) (nr3T p za zb zc zf g r B0 WW) (fun D w => Below B0 WW w ∧ Box w g 23 (pcL ⟨za, zb, (if D 7 = true then zc else p.t), p.l⟩) ∧ Box w r 23 (pcL pcZ) ∧ True) (fun D hD => by
    show Below B0 WW W0.drew ∧ Box W0.drew g 23 (pcL ⟨za, zb, (if D 7 = true then zc else p.t), p.l⟩) ∧ Box W0.drew r 23 (pcL pcZ) ∧ True
    rw [hD 7]
    exact ⟨hS0.1.drew, hS0.2.1, hS0.2.2.1, trivial⟩) ?_ (by rfl) (fun w D hD hSw => by
    have hSw' : Below B0 WW w ∧ Box w g 23 (pcL ⟨za, zb, (if D 7 = true then zc else p.t), p.l⟩) ∧ Box w r 23 (pcL pcZ) ∧ True := hSw
    rw [hD 7 (by decide)] at hSw'
    exact hfin (nr3T p za zb zc zf g r B0 WW) w  hSw')
  · intro jq t hj ht
    have : ∀ j, j < 8 → (nr3D j).all (· < 23) = true := by decide
    have := this jq hj
    rw [ht] at this
    rw [sz]
    simpa using this
  · intro iq o ho D a w hSw hDi hcl hs hel K hK
    have hin : iq < 8 := (Array.getElem?_eq_some_iff.1 ho).1
    match iq, hin, ho with
    | 0, _, ho =>
      obtain rfl := Option.some.inj (ho.symm.trans (nr3_0 ps))
      have u1 : a.eval (.tmp 1) = .pointer (some ⟨g, 0, none⟩) := (hel 1 (by decide)).trans e1
      exact op_valW (nr3_0 ps) rfl (v := .pointer (some ⟨g, 2, none⟩)) (by unfold nr3O0 execOp; simp only [u1]; first | (go_simp; done) | (go_simp; with_reducible rfl)) (hK w (fun D' hi' hj' => by
        have hd7 : D' 7 = D 7 := hj' 7 (by decide)
        show Below B0 WW w ∧ Box w g 23 (pcL ⟨za, zb, (if D' 7 = true then zc else p.t), p.l⟩) ∧ Box w r 23 (pcL pcZ) ∧ True
        rw [hd7]
        exact hSw))
    | 1, _, ho =>
      obtain rfl := Option.some.inj (ho.symm.trans (nr3_1 ps))
      have s0 : a.eval (.tmp 11) = .pointer (some ⟨g, 2, none⟩) := hs 0 11 (by rfl) rfl
      have hn7 : D 7 = false := by
        cases h : D 7 with
        | false => rfl
        | true => exact absurd (hcl 7 _ 1 (nr3_7 ps) (by rfl) h) (by rw [hDi]; simp)
      have hb' : Box w g 23 (pcL ⟨za, zb, p.t, p.l⟩) := by
        have hb2 := hSw.2.1
        rw [hn7] at hb2
        exact hb2
      have hcl := Box.cell hb' 2 rfl
      exact op_valW (nr3_1 ps) rfl (v := .int .i64 p.t) (by unfold nr3O1 execOp; simp only [s0]; first | (go_simp; done) | (go_simp; with_reducible rfl)) (hK w (fun D' hi' hj' => by
        have hd7 : D' 7 = D 7 := hj' 7 (by decide)
        show Below B0 WW w ∧ Box w g 23 (pcL ⟨za, zb, (if D' 7 = true then zc else p.t), p.l⟩) ∧ Box w r 23 (pcL pcZ) ∧ True
        rw [hd7]
        exact hSw))
    | 2, _, ho =>
      obtain rfl := Option.some.inj (ho.symm.trans (nr3_2 ps))
      have u1 : a.eval (.tmp 1) = .pointer (some ⟨g, 0, none⟩) := (hel 1 (by decide)).trans e1
      have hn7 : D 7 = false := by
        cases h : D 7 with
        | false => rfl
        | true => exact absurd (hcl 7 _ 2 (nr3_7 ps) (by rfl) h) (by rw [hDi]; simp)
      have hb' : Box w g 23 (pcL ⟨za, zb, p.t, p.l⟩) := by
        have hb2 := hSw.2.1
        rw [hn7] at hb2
        exact hb2
      exact op_valW (nr3_2 ps) rfl (v := agv (pcL ⟨za, zb, p.t, p.l⟩)) (run_loadS isS23 rfl u1 hb') (hK w (fun D' hi' hj' => by
        have hd7 : D' 7 = D 7 := hj' 7 (by decide)
        show Below B0 WW w ∧ Box w g 23 (pcL ⟨za, zb, (if D' 7 = true then zc else p.t), p.l⟩) ∧ Box w r 23 (pcL pcZ) ∧ True
        rw [hd7]
        exact hSw))
    | 3, _, ho =>
      obtain rfl := Option.some.inj (ho.symm.trans (nr3_3 ps))
      have s2 : a.eval (.tmp 13) = agv (pcL ⟨za, zb, p.t, p.l⟩) := hs 2 13 (by rfl) rfl
      exact op_enterW (nr3_3 ps) rfl (f := 25) (args := #[agv (pcL ⟨za, zb, p.t, p.l⟩)]) (by rw [run_call rfl enter25]; simp only [List.map_toArray, List.map_cons, List.map_nil, s2]; try rfl) ((c3 w).mono (fun e w' hh => ⟨_, hh.1, hK w' (fun D' hi' hj' => by
        have hd7 : D' 7 = D 7 := hj' 7 (by decide)
        show Below B0 WW w' ∧ Box w' g 23 (pcL ⟨za, zb, (if D' 7 = true then zc else p.t), p.l⟩) ∧ Box w' r 23 (pcL pcZ) ∧ True
        rw [hd7]
        exact ⟨hSw.1.trans (hh.2.mono (Nat.le_trans l0 (Nat.le_of_lt hSw.2.1.lt))), hSw.2.1.later hh.2, hSw.2.2.1.later hh.2, trivial⟩)⟩))
    | 4, _, ho =>
      obtain rfl := Option.some.inj (ho.symm.trans (nr3_4 ps))
      have s3 : a.eval (.tmp 14) = agv (pcL ⟨za, zb, zf, p.l⟩) := hs 3 14 (by rfl) rfl
      exact op_valW (nr3_4 ps) rfl (v := .int .i64 zf) (run_fld2 rfl s3) (hK w (fun D' hi' hj' => by
        have hd7 : D' 7 = D 7 := hj' 7 (by decide)
        show Below B0 WW w ∧ Box w g 23 (pcL ⟨za, zb, (if D' 7 = true then zc else p.t), p.l⟩) ∧ Box w r 23 (pcL pcZ) ∧ True
        rw [hd7]
        exact hSw))
    | 5, _, ho =>
      obtain rfl := Option.some.inj (ho.symm.trans (nr3_5 ps))
      have s1 : a.eval (.tmp 12) = .int .i64 p.t := hs 1 12 (by rfl) rfl
      have s4 : a.eval (.tmp 15) = .int .i64 zf := hs 4 15 (by rfl) rfl
      exact op_enterW (nr3_5 ps) rfl (f := 33) (args := #[.int .i64 p.t, .int .i64 (-1073741824000000), .int .i64 zf]) (by rw [run_call rfl enter33]; simp only [List.map_toArray, List.map_cons, List.map_nil, s1, s4]; try rfl) ((c4 w).mono (fun e w' hh => ⟨_, hh.1, hK w' (fun D' hi' hj' => by
        have hd7 : D' 7 = D 7 := hj' 7 (by decide)
        show Below B0 WW w' ∧ Box w' g 23 (pcL ⟨za, zb, (if D' 7 = true then zc else p.t), p.l⟩) ∧ Box w' r 23 (pcL pcZ) ∧ True
        rw [hd7]
        exact ⟨hSw.1.trans (hh.2.mono (Nat.le_trans l0 (Nat.le_of_lt hSw.2.1.lt))), hSw.2.1.later hh.2, hSw.2.2.1.later hh.2, trivial⟩)⟩))
    | 6, _, ho =>
      obtain rfl := Option.some.inj (ho.symm.trans (nr3_6 ps))
      have u1 : a.eval (.tmp 1) = .pointer (some ⟨g, 0, none⟩) := (hel 1 (by decide)).trans e1
      exact op_valW (nr3_6 ps) rfl (v := .pointer (some ⟨g, 2, none⟩)) (by unfold nr3O6 execOp; simp only [u1]; first | (go_simp; done) | (go_simp; with_reducible rfl)) (hK w (fun D' hi' hj' => by
        have hd7 : D' 7 = D 7 := hj' 7 (by decide)
        show Below B0 WW w ∧ Box w g 23 (pcL ⟨za, zb, (if D' 7 = true then zc else p.t), p.l⟩) ∧ Box w r 23 (pcL pcZ) ∧ True
        rw [hd7]
        exact hSw))
    | 7, _, ho =>
      obtain rfl := Option.some.inj (ho.symm.trans (nr3_7 ps))
      have s6 : a.eval (.tmp 17) = .pointer (some ⟨g, 2, none⟩) := hs 6 17 (by rfl) rfl
      have s5 : a.eval (.tmp 16) = .int .i64 zc := hs 5 16 (by rfl) rfl
      have hb' : Box w g 23 (pcL ⟨za, zb, p.t, p.l⟩) := by
        have hb2 := hSw.2.1
        rw [hDi] at hb2
        exact hb2
      have hfz := Box.frozen hb' 2
      have hcx := Box.cell hb' 2 rfl
      exact op_stoW (nr3_7 ps) rfl rfl (w' := (w.setCell ⟨g, 2, none⟩ (.int .i64 zc))) (by unfold nr3O7 execOp; simp only [s6, s5]; first | (go_simp; done) | (go_simp; with_reducible rfl)) (hK _ (fun D' hi' hj' => by
        have hd7 : D' 7 = true := hi'
        show Below B0 WW (w.setCell ⟨g, 2, none⟩ (.int .i64 zc)) ∧ Box (w.setCell ⟨g, 2, none⟩ (.int .i64 zc)) g 23 (pcL ⟨za, zb, (if D' 7 = true then zc else p.t), p.l⟩) ∧ Box (w.setCell ⟨g, 2, none⟩ (.int .i64 zc)) r 23 (pcL pcZ) ∧ True
        rw [hd7]
        exact ⟨((Sto.refl w g).set 2 (.int .i64 zc)).below _ _ (by omega) hSw.1, hb'.set 2 (.int .i64 zc), hSw.2.2.1.sto ((Sto.refl w g).set 2 (.int .i64 zc)) (by omega), trivial⟩))
    | iq + 8, hin, _ => exact absurd hin (by omega)

set_option maxRecDepth 100000 in
set_option maxHeartbeats 4000000 in
theorem near_w (p : Pc) (za zb zc zd zf : Int) (c1 : ∀ W, Calls Try.prog 33 #[.int .i64 p.r, .int .i64 1, .int .i64 1099511627776] W fun e w' => e = .returned (.int .i64 za) ∧ w' = W) (c2 : ∀ W, Calls Try.prog 33 #[.int .i64 p.b, .int .i64 1, .int .i64 1073741824] W fun e w' => e = .returned (.int .i64 zb) ∧ w' = W) (c3 : ∀ W, Calls Try.prog 25 #[agv (pcL ⟨za, zb, p.t, p.l⟩)] W fun e w' => e = .returned (agv (pcL ⟨za, zb, zf, p.l⟩)) ∧ Below W.heap.size W w') (c4 : ∀ W, Calls Try.prog 33 #[.int .i64 p.t, .int .i64 (-1073741824000000), .int .i64 zf] W fun e w' => e = .returned (.int .i64 zc) ∧ Below W.heap.size W w') (c5 : ∀ W, Calls Try.prog 33 #[.int .i64 p.l, .int .i64 0, .int .i64 1125899906842624] W fun e w' => e = .returned (.int .i64 zd) ∧ w' = W)  (w : World) : Calls Try.prog 29 #[agv (pcL p)] w fun e w' => e = .returned (agv (pcL ⟨za, zb, zc, zd⟩)) ∧ Below w.heap.size w w' := by
  go_enter Try.func29, Try.ntmps29
  go_wp2_with (first | (refine wpS_box rfl rfl rfl ?_))
  intro X1 g HN
  have HX1 : Hid (Below w.heap.size w X1 ∧ Box X1 g 23 (pcL p) ∧ w.heap.size ≤ g ∧ True) := by
    have hb := Below.refl w.heap.size w
    obtain ⟨hg, hb2, bn⟩ := HN.out
    have hz := hb.size
    exact ⟨Below.on hb hb2, bn, by omega, trivial⟩
  clear HN 
  go_wp2_with (first | (refine wpS_alloc rfl rfl zero23 ?_))
  intro X2 r HN
  have HX2 : Hid (Below w.heap.size w X2 ∧ Box X2 g 23 (pcL p) ∧ Box X2 r 23 (pcL pcZ) ∧ w.heap.size ≤ g ∧ g < r ∧ True) := by
    obtain ⟨hb, b0, l0, _⟩ := HX1.out
    obtain ⟨hg, hb2, bn⟩ := HN.out
    have z0 := b0.lt
    exact ⟨Below.on hb hb2, b0.later hb2, bn, l0, by omega, trivial⟩
  clear HN HX1
  have k0 := Box.cell (HX2.out.2.1) 0 rfl
  have fz := fun i => Box.frozen (HX2.out.2.1) i
  go_wp2_with fail
  refine (c1 _).mono ?_
  rintro e w' ⟨rfl, hq⟩
  obtain rfl := hq.symm
  clear hq
  go_upto_region 2 with fail
  obtain ⟨X3, hX⟩ : ∃ X, X2.setCell ⟨g, 0, none⟩ (.int .i64 za) = X := ⟨_, rfl⟩
  try rw [hX]
  have HX3 : Hid (Below w.heap.size w X3 ∧ Box X3 g 23 (pcL (⟨za, p.b, p.t, p.l⟩ : Pc)) ∧ Box X3 r 23 (pcL pcZ) ∧ w.heap.size ≤ g ∧ g < r ∧ True) := by
    obtain ⟨hb, b0, b1, l0, l1, _⟩ := HX2.out
    subst hX
    exact ⟨below_set hb _ _ _ (by omega), b0.set 0 _, b1.aside _ _ _ (by omega), l0, l1, trivial⟩
  clear hX HX2
  clear k0 fz
  have k1 := Box.cell (HX3.out.2.1) 1 rfl
  have fz := fun i => Box.frozen (HX3.out.2.1) i
  go_wp2_with fail
  refine (c2 _).mono ?_
  rintro e w' ⟨rfl, hq⟩
  obtain rfl := hq.symm
  clear hq
  go_upto_region 3 with fail
  obtain ⟨X4, hX⟩ : ∃ X, X3.setCell ⟨g, 1, none⟩ (.int .i64 zb) = X := ⟨_, rfl⟩
  try rw [hX]
  have HX4 : Hid (Below w.heap.size w X4 ∧ Box X4 g 23 (pcL (⟨za, zb, p.t, p.l⟩ : Pc)) ∧ Box X4 r 23 (pcL pcZ) ∧ w.heap.size ≤ g ∧ g < r ∧ True) := by
    obtain ⟨hb, b0, b1, l0, l1, _⟩ := HX3.out
    subst hX
    exact ⟨below_set hb _ _ _ (by omega), b0.set 1 _, b1.aside _ _ _ (by omega), l0, l1, trivial⟩
  clear hX HX3
  clear k1 fz
  refine nr3_reg (by rfl) p za zb zc zf g r _ _  rfl (HX4.out.2.2.2.1) (HX4.out.2.2.2.2.1) ⟨HX4.out.1, HX4.out.2.1, HX4.out.2.2.1, trivial⟩ c3 c4 ?_
  intro T X5  hS
  simp only [Act.put, List.setIfInBounds_toArray, List.set_cons_zero, List.set_cons_succ]
  have HX5 : Hid (Below w.heap.size w X5 ∧ Box X5 g 23 (pcL (⟨za, zb, zc, p.l⟩ : Pc)) ∧ Box X5 r 23 (pcL pcZ) ∧ w.heap.size ≤ g ∧ g < r ∧ True) := by
    obtain ⟨hb, b0, b1, l0, l1, _⟩ := HX4.out
    exact ⟨hS.1, hS.2.1, hS.2.2.1, l0, l1, trivial⟩
  clear hS HX4
  go_upto_region 4 with fail
  have k3 := Box.cell (HX5.out.2.1) 3 rfl
  have fz := fun i => Box.frozen (HX5.out.2.1) i
  go_wp2_with fail
  refine (c5 _).mono ?_
  rintro e w' ⟨rfl, hq⟩
  obtain rfl := hq.symm
  clear hq
  go_upto_region 5 with fail
  obtain ⟨X6, hX⟩ : ∃ X, X5.setCell ⟨g, 3, none⟩ (.int .i64 zd) = X := ⟨_, rfl⟩
  try rw [hX]
  have HX6 : Hid (Below w.heap.size w X6 ∧ Box X6 g 23 (pcL (⟨za, zb, zc, zd⟩ : Pc)) ∧ Box X6 r 23 (pcL pcZ) ∧ w.heap.size ≤ g ∧ g < r ∧ True) := by
    obtain ⟨hb, b0, b1, l0, l1, _⟩ := HX5.out
    subst hX
    exact ⟨below_set hb _ _ _ (by omega), b0.set 3 _, b1.aside _ _ _ (by omega), l0, l1, trivial⟩
  clear hX HX5
  clear k3 fz
  go_wp2_with (first | (refine wpS_load rfl rfl rfl (HX6.out.2.1) isS23 ?_) | (refine wpS_store rfl rfl rfl rfl rfl (HX6.out.2.2.1) rfl isS23 (pcL_one _) ?_))
  intro X7 HN
  have HX7 : Hid (Below w.heap.size w X7 ∧ Box X7 g 23 (pcL (⟨za, zb, zc, zd⟩ : Pc)) ∧ Box X7 r 23 (pcL (⟨za, zb, zc, zd⟩ : Pc)) ∧ w.heap.size ≤ g ∧ g < r ∧ True) := by
    obtain ⟨hb, b0, b1, l0, l1, _⟩ := HX6.out
    obtain ⟨st, bn⟩ := HN.out
    exact ⟨st.below _ _ (by omega) hb, b0.sto st (by omega), bn, l0, l1, trivial⟩
  clear HN HX6
  go_wp2_with fail
  refine bodyPost_ret (resS1 rfl _ _ rfl (HX7.out.2.2.1) isS23) rfl ?_
  exact ⟨rfl, HX7.out.1⟩

theorem near_is (p : Pc) (w : World) : Calls Try.prog 29 #[agv (pcL p)] w fun e w' => e = .returned (agv (pcL (nearP p))) ∧ Below w.heap.size w w' := by
  have hb := clamp_in (x := p.b) (a := 1) (b := 1073741824) (by omega)
  exact near_w p _ _ _ _ (clampI p.b 1 1073741824 * 1000000) (fun W => clamp_walk _ _ _ W) (fun W => clamp_walk _ _ _ W) (fun W => full_is ⟨clampI p.r 1 1099511627776, clampI p.b 1 1073741824, p.t, p.l⟩ (by rw [IntKind.wrap_i64]; show _ = clampI p.b 1 1073741824 * 1000000; simp only; omega) W) (fun W => clampB _ _ _ rfl W) (fun W => clamp_walk _ _ _ W) w
end Go.Proofs.Ytifgdpokmgibgaa
