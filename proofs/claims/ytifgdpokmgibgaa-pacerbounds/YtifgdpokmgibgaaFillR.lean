/- Fill's region that draws its order. -/
import Derived.Test.YtifgdpokmgibgaaCheck
namespace Go.Proofs.Ytifgdpokmgibgaa
open Go.ChangeShapes Go.WideShapes Go.ChangeAt Go.RowKit Go.Shelf
set_option linter.unusedVariables false
set_option linter.unusedSimpArgs false
attribute [local go_sem] Oper.semAt_some

def fl7O0 (ps : String) : Oper := { dst := some 34, op := .fieldAddr 23 (.tmp 2) 2, type := 0, pos := ps, after := #[], guard := none }
def fl7O1 (ps : String) : Oper := { dst := some 35, op := .load 3 (.tmp 34), type := 3, pos := ps, after := #[{ on := 0, ground := .data }], guard := none }
def fl7O2 (ps : String) : Oper := { dst := some 36, op := .move (.tmp 7), type := 3, pos := ps, after := #[], guard := none }
def fl7O3 (ps : String) : Oper := { dst := some 37, op := .call { callee := .value (.func 24), args := #[.tmp 35, .tmp 36], argTypes := #[3, 3] }, type := 3, pos := ps, after := #[{ on := 1, ground := .data }, { on := 2, ground := .data }], guard := none }
def fl7O4 (ps : String) : Oper := { dst := some 38, op := .load 23 (.tmp 2), type := 23, pos := ps, after := #[], guard := none }
def fl7O5 (ps : String) : Oper := { dst := some 39, op := .call { callee := .value (.func 25), args := #[.tmp 38], argTypes := #[23] }, type := 23, pos := ps, after := #[{ on := 4, ground := .data }, { on := 3, ground := .chain }], guard := none }
def fl7O6 (ps : String) : Oper := { dst := some 40, op := .field 23 (.tmp 39) 2, type := 3, pos := ps, after := #[{ on := 5, ground := .data }], guard := none }
def fl7O7 (ps : String) : Oper := { dst := some 41, op := .call { callee := .builtin .min, args := #[.tmp 37, .tmp 40], argTypes := #[3, 3] }, type := 3, pos := ps, after := #[{ on := 3, ground := .data }, { on := 6, ground := .data }], guard := none }
def fl7O8 (ps : String) : Oper := { dst := some 42, op := .fieldAddr 23 (.tmp 2) 2, type := 0, pos := ps, after := #[{ on := 0, ground := .phase }, { on := 1, ground := .phase }, { on := 2, ground := .phase }, { on := 3, ground := .phase }, { on := 4, ground := .phase }, { on := 5, ground := .phase }, { on := 6, ground := .phase }, { on := 7, ground := .phase }], guard := none }
def fl7O9 (ps : String) : Oper := { dst := none, op := .store 3 (.tmp 42) (.tmp 41), type := 0, pos := ps, after := #[{ on := 8, ground := .data }, { on := 7, ground := .data }, { on := 5, ground := .chain }, { on := 0, ground := .phase }, { on := 1, ground := .phase }, { on := 2, ground := .phase }, { on := 3, ground := .phase }, { on := 4, ground := .phase }, { on := 5, ground := .phase }, { on := 6, ground := .phase }, { on := 7, ground := .phase }], guard := none }
def fl7 (ps : String) : Array Oper := #[fl7O0 ps, fl7O1 ps, fl7O2 ps, fl7O3 ps, fl7O4 ps, fl7O5 ps, fl7O6 ps, fl7O7 ps, fl7O8 ps, fl7O9 ps]
theorem fl7_0 (ps : String) : (fl7 ps)[0]? = some (fl7O0 ps) := rfl
theorem fl7_1 (ps : String) : (fl7 ps)[1]? = some (fl7O1 ps) := rfl
theorem fl7_2 (ps : String) : (fl7 ps)[2]? = some (fl7O2 ps) := rfl
theorem fl7_3 (ps : String) : (fl7 ps)[3]? = some (fl7O3 ps) := rfl
theorem fl7_4 (ps : String) : (fl7 ps)[4]? = some (fl7O4 ps) := rfl
theorem fl7_5 (ps : String) : (fl7 ps)[5]? = some (fl7O5 ps) := rfl
theorem fl7_6 (ps : String) : (fl7 ps)[6]? = some (fl7O6 ps) := rfl
theorem fl7_7 (ps : String) : (fl7 ps)[7]? = some (fl7O7 ps) := rfl
theorem fl7_8 (ps : String) : (fl7 ps)[8]? = some (fl7O8 ps) := rfl
theorem fl7_9 (ps : String) : (fl7 ps)[9]? = some (fl7O9 ps) := rfl
def fl7D : Nat → Option Tmp
  | 0 => some 34
  | 1 => some 35
  | 2 => some 36
  | 3 => some 37
  | 4 => some 38
  | 5 => some 39
  | 6 => some 40
  | 7 => some 41
  | 8 => some 42
  | 9 => none
  | _ => none
def fl7T (p : Pc) (m s F f : Int) (g r B0 : Nat) (WW : World) : Nat → Value
  | 0 => .pointer (some ⟨g, 2, none⟩)
  | 1 => .int .i64 p.t
  | 2 => .int .i64 m
  | 3 => .int .i64 s
  | 4 => agv (pcL p)
  | 5 => agv (pcL ⟨p.r, p.b, F, p.l⟩)
  | 6 => .int .i64 F
  | 7 => .int .i64 f
  | 8 => .pointer (some ⟨g, 2, none⟩)
  | 9 => undef
  | _ => undef
set_option maxRecDepth 100000 in
set_option maxHeartbeats 4000000 in
theorem fl7_reg {ps : String} {Q : Exit → Act → World → Prop} {a0 : Act} {W0 : World} (sz : a0.tmps.size = 46) (p : Pc) (m s F f : Int) (g r B0 : Nat) (WW : World)
    (e2 : a0.eval (.tmp 2) = .pointer (some ⟨g, 0, none⟩)) (e7 : a0.eval (.tmp 7) = .int .i64 m)
    (l0 : B0 ≤ g) (l1 : g < r) (hS0 : Below B0 WW W0 ∧ Box W0 g 23 (pcL ⟨p.r, p.b, (if false = true then f else p.t), p.l⟩) ∧ Box W0 r 23 (pcL pcZ) ∧ True) (hf : min s F = f) (c3 : ∀ W, Calls Try.prog 24 #[.int .i64 p.t, .int .i64 m] W fun e w' => e = .returned (.int .i64 s) ∧ Below W.heap.size W w') (c4 : ∀ W, Calls Try.prog 25 #[agv (pcL p)] W fun e w' => e = .returned (agv (pcL ⟨p.r, p.b, F, p.l⟩)) ∧ Below W.heap.size W w') 
    (hfin : ∀ (T : Nat → Value) w, Below B0 WW w ∧ Box w g 23 (pcL ⟨p.r, p.b, f, p.l⟩) ∧ Box w r 23 (pcL pcZ) ∧ True → Q .normal (((((((((a0.put (some 34) (T 0)).put (some 35) (T 1)).put (some 36) (T 2)).put (some 37) (T 3)).put (some 38) (T 4)).put (some 39) (T 5)).put (some 40) (T 6)).put (some 41) (T 7)).put (some 42) (T 8)) w) :
    (Code.region 7 (fl7 ps) true).wp Try.prog Q a0 W0 := by
  refine wp_region_dets (by kernel_rfl) 10 rfl fl7D ?_ (by decide) (fl7T p m s F f g r B0 WW) (fun D w => Below B0 WW w ∧ Box w g 23 (pcL ⟨p.r, p.b, (if D 9 = true then f else p.t), p.l⟩) ∧ Box w r 23 (pcL pcZ) ∧ True) (fun D hD => by
    show Below B0 WW W0.drew ∧ Box W0.drew g 23 (pcL ⟨p.r, p.b, (if D 9 = true then f else p.t), p.l⟩) ∧ Box W0.drew r 23 (pcL pcZ) ∧ True
    rw [hD 9]
    exact ⟨hS0.1.drew, hS0.2.1, hS0.2.2.1, trivial⟩) ?_ (by rfl) (fun w D hD hSw => by
    have hSw' : Below B0 WW w ∧ Box w g 23 (pcL ⟨p.r, p.b, (if D 9 = true then f else p.t), p.l⟩) ∧ Box w r 23 (pcL pcZ) ∧ True := hSw
    rw [hD 9 (by decide)] at hSw'
    exact hfin (fl7T p m s F f g r B0 WW) w  hSw')
  · intro jq t hj ht
    have : ∀ j, j < 10 → (fl7D j).all (· < 46) = true := by decide
    have := this jq hj
    rw [ht] at this
    rw [sz]
    simpa using this
  · intro iq o ho D a w hSw hDi hcl hs hel K hK
    have hin : iq < 10 := (Array.getElem?_eq_some_iff.1 ho).1
    match iq, hin, ho with
    | 0, _, ho =>
      obtain rfl := Option.some.inj (ho.symm.trans (fl7_0 ps))
      have u2 : a.eval (.tmp 2) = .pointer (some ⟨g, 0, none⟩) := (hel 2 (by decide)).trans e2
      exact op_valW (fl7_0 ps) rfl (v := .pointer (some ⟨g, 2, none⟩)) (by unfold fl7O0 execOp; simp only [u2]; first | (go_simp; done) | (go_simp; with_reducible rfl)) (hK w (fun D' hi' hj' => by
        have hd9 : D' 9 = D 9 := hj' 9 (by decide)
        show Below B0 WW w ∧ Box w g 23 (pcL ⟨p.r, p.b, (if D' 9 = true then f else p.t), p.l⟩) ∧ Box w r 23 (pcL pcZ) ∧ True
        rw [hd9]
        exact hSw))
    | 1, _, ho =>
      obtain rfl := Option.some.inj (ho.symm.trans (fl7_1 ps))
      have s0 : a.eval (.tmp 34) = .pointer (some ⟨g, 2, none⟩) := hs 0 34 (by rfl) rfl
      have hn9 : D 9 = false := by
        cases h : D 9 with
        | false => rfl
        | true => exact absurd (hcl 9 _ 1 (fl7_9 ps) (by rfl) h) (by rw [hDi]; simp)
      have hb' : Box w g 23 (pcL p) := by
        have hb2 := hSw.2.1
        rw [hn9] at hb2
        exact hb2
      have hcl := Box.cell hb' 2 rfl
      exact op_valW (fl7_1 ps) rfl (v := .int .i64 p.t) (by unfold fl7O1 execOp; simp only [s0]; first | (go_simp; done) | (go_simp; with_reducible rfl)) (hK w (fun D' hi' hj' => by
        have hd9 : D' 9 = D 9 := hj' 9 (by decide)
        show Below B0 WW w ∧ Box w g 23 (pcL ⟨p.r, p.b, (if D' 9 = true then f else p.t), p.l⟩) ∧ Box w r 23 (pcL pcZ) ∧ True
        rw [hd9]
        exact hSw))
    | 2, _, ho =>
      obtain rfl := Option.some.inj (ho.symm.trans (fl7_2 ps))
      have u7 : a.eval (.tmp 7) = .int .i64 m := (hel 7 (by decide)).trans e7
      exact op_valW (fl7_2 ps) rfl (v := .int .i64 m) (by unfold fl7O2 execOp; simp only [u7]; first | (go_simp; done) | (go_simp; with_reducible rfl)) (hK w (fun D' hi' hj' => by
        have hd9 : D' 9 = D 9 := hj' 9 (by decide)
        show Below B0 WW w ∧ Box w g 23 (pcL ⟨p.r, p.b, (if D' 9 = true then f else p.t), p.l⟩) ∧ Box w r 23 (pcL pcZ) ∧ True
        rw [hd9]
        exact hSw))
    | 3, _, ho =>
      obtain rfl := Option.some.inj (ho.symm.trans (fl7_3 ps))
      have s1 : a.eval (.tmp 35) = .int .i64 p.t := hs 1 35 (by rfl) rfl
      have s2 : a.eval (.tmp 36) = .int .i64 m := hs 2 36 (by rfl) rfl
      exact op_enterW (fl7_3 ps) rfl (f := 24) (args := #[.int .i64 p.t, .int .i64 m]) (by rw [run_call rfl enter24]; simp only [List.map_toArray, List.map_cons, List.map_nil, s1, s2]; try rfl) ((c3 w).mono (fun e w' hh => ⟨_, hh.1, hK w' (fun D' hi' hj' => by
        have hd9 : D' 9 = D 9 := hj' 9 (by decide)
        show Below B0 WW w' ∧ Box w' g 23 (pcL ⟨p.r, p.b, (if D' 9 = true then f else p.t), p.l⟩) ∧ Box w' r 23 (pcL pcZ) ∧ True
        rw [hd9]
        exact ⟨hSw.1.trans (hh.2.mono (Nat.le_trans l0 (Nat.le_of_lt hSw.2.1.lt))), hSw.2.1.later hh.2, hSw.2.2.1.later hh.2, trivial⟩)⟩))
    | 4, _, ho =>
      obtain rfl := Option.some.inj (ho.symm.trans (fl7_4 ps))
      have u2 : a.eval (.tmp 2) = .pointer (some ⟨g, 0, none⟩) := (hel 2 (by decide)).trans e2
      have hn9 : D 9 = false := by
        cases h : D 9 with
        | false => rfl
        | true => exact absurd (hcl 9 _ 4 (fl7_9 ps) (by rfl) h) (by rw [hDi]; simp)
      have hb' : Box w g 23 (pcL p) := by
        have hb2 := hSw.2.1
        rw [hn9] at hb2
        exact hb2
      exact op_valW (fl7_4 ps) rfl (v := agv (pcL p)) (run_loadS isS23 rfl u2 hb') (hK w (fun D' hi' hj' => by
        have hd9 : D' 9 = D 9 := hj' 9 (by decide)
        show Below B0 WW w ∧ Box w g 23 (pcL ⟨p.r, p.b, (if D' 9 = true then f else p.t), p.l⟩) ∧ Box w r 23 (pcL pcZ) ∧ True
        rw [hd9]
        exact hSw))
    | 5, _, ho =>
      obtain rfl := Option.some.inj (ho.symm.trans (fl7_5 ps))
      have s4 : a.eval (.tmp 38) = agv (pcL p) := hs 4 38 (by rfl) rfl
      exact op_enterW (fl7_5 ps) rfl (f := 25) (args := #[agv (pcL p)]) (by rw [run_call rfl enter25]; simp only [List.map_toArray, List.map_cons, List.map_nil, s4]; try rfl) ((c4 w).mono (fun e w' hh => ⟨_, hh.1, hK w' (fun D' hi' hj' => by
        have hd9 : D' 9 = D 9 := hj' 9 (by decide)
        show Below B0 WW w' ∧ Box w' g 23 (pcL ⟨p.r, p.b, (if D' 9 = true then f else p.t), p.l⟩) ∧ Box w' r 23 (pcL pcZ) ∧ True
        rw [hd9]
        exact ⟨hSw.1.trans (hh.2.mono (Nat.le_trans l0 (Nat.le_of_lt hSw.2.1.lt))), hSw.2.1.later hh.2, hSw.2.2.1.later hh.2, trivial⟩)⟩))
    | 6, _, ho =>
      obtain rfl := Option.some.inj (ho.symm.trans (fl7_6 ps))
      have s5 : a.eval (.tmp 39) = agv (pcL ⟨p.r, p.b, F, p.l⟩) := hs 5 39 (by rfl) rfl
      exact op_valW (fl7_6 ps) rfl (v := .int .i64 F) (run_fld2 rfl s5) (hK w (fun D' hi' hj' => by
        have hd9 : D' 9 = D 9 := hj' 9 (by decide)
        show Below B0 WW w ∧ Box w g 23 (pcL ⟨p.r, p.b, (if D' 9 = true then f else p.t), p.l⟩) ∧ Box w r 23 (pcL pcZ) ∧ True
        rw [hd9]
        exact hSw))
    | 7, _, ho =>
      obtain rfl := Option.some.inj (ho.symm.trans (fl7_7 ps))
      have s3 : a.eval (.tmp 37) = .int .i64 s := hs 3 37 (by rfl) rfl
      have s6 : a.eval (.tmp 40) = .int .i64 F := hs 6 40 (by rfl) rfl
      have t37 : a.tmps[37]?.getD undef = .int .i64 s := by simpa [Act.eval] using s3
      have t40 : a.tmps[40]?.getD undef = .int .i64 F := by simpa [Act.eval] using s6
      have hmn := fun W => min2 hf W
      exact op_valW (fl7_7 ps) rfl (v := .int .i64 f) (by unfold fl7O7 execOp; skip; first | (go_simp; done) | (go_simp; with_reducible rfl)) (hK w (fun D' hi' hj' => by
        have hd9 : D' 9 = D 9 := hj' 9 (by decide)
        show Below B0 WW w ∧ Box w g 23 (pcL ⟨p.r, p.b, (if D' 9 = true then f else p.t), p.l⟩) ∧ Box w r 23 (pcL pcZ) ∧ True
        rw [hd9]
        exact hSw))
    | 8, _, ho =>
      obtain rfl := Option.some.inj (ho.symm.trans (fl7_8 ps))
      have u2 : a.eval (.tmp 2) = .pointer (some ⟨g, 0, none⟩) := (hel 2 (by decide)).trans e2
      exact op_valW (fl7_8 ps) rfl (v := .pointer (some ⟨g, 2, none⟩)) (by unfold fl7O8 execOp; simp only [u2]; first | (go_simp; done) | (go_simp; with_reducible rfl)) (hK w (fun D' hi' hj' => by
        have hd9 : D' 9 = D 9 := hj' 9 (by decide)
        show Below B0 WW w ∧ Box w g 23 (pcL ⟨p.r, p.b, (if D' 9 = true then f else p.t), p.l⟩) ∧ Box w r 23 (pcL pcZ) ∧ True
        rw [hd9]
        exact hSw))
    | 9, _, ho =>
      obtain rfl := Option.some.inj (ho.symm.trans (fl7_9 ps))
      have s8 : a.eval (.tmp 42) = .pointer (some ⟨g, 2, none⟩) := hs 8 42 (by rfl) rfl
      have s7 : a.eval (.tmp 41) = .int .i64 f := hs 7 41 (by rfl) rfl
      have hb' : Box w g 23 (pcL p) := by
        have hb2 := hSw.2.1
        rw [hDi] at hb2
        exact hb2
      have hfz := Box.frozen hb' 2
      have hcx := Box.cell hb' 2 rfl
      exact op_stoW (fl7_9 ps) rfl rfl (w' := (w.setCell ⟨g, 2, none⟩ (.int .i64 f))) (by unfold fl7O9 execOp; simp only [s8, s7]; first | (go_simp; done) | (go_simp; with_reducible rfl)) (hK _ (fun D' hi' hj' => by
        have hd9 : D' 9 = true := hi'
        show Below B0 WW (w.setCell ⟨g, 2, none⟩ (.int .i64 f)) ∧ Box (w.setCell ⟨g, 2, none⟩ (.int .i64 f)) g 23 (pcL ⟨p.r, p.b, (if D' 9 = true then f else p.t), p.l⟩) ∧ Box (w.setCell ⟨g, 2, none⟩ (.int .i64 f)) r 23 (pcL pcZ) ∧ True
        rw [hd9]
        exact ⟨((Sto.refl w g).set 2 (.int .i64 f)).below _ _ (by omega) hSw.1, hb'.set 2 (.int .i64 f), hSw.2.2.1.sto ((Sto.refl w g).set 2 (.int .i64 f)) (by omega), trivial⟩))
    | iq + 10, hin, _ => exact absurd hin (by omega)
end Go.Proofs.Ytifgdpokmgibgaa
