/- weigh's region that draws its order. -/
import Derived.Test.YtliiogafemlagaaDets
namespace Go.Proofs.Ytliiogafemlagaa
open Go.ChangeShapes Go.WideShapes Go.ChangeAt Go.RowKit Go.Shelf
set_option linter.unusedVariables false
set_option linter.unusedSimpArgs false
attribute [local go_sem] Oper.semAt_some

def wg4O0 (ps : String) : Oper := { dst := some 18, op := .fieldAddr 47 (.tmp 4) 2, type := 0, pos := ps, after := #[], guard := none }
def wg4O1 (ps : String) : Oper := { dst := some 19, op := .load 3 (.tmp 18), type := 3, pos := ps, after := #[{ on := 0, ground := .data }], guard := none }
def wg4O2 (ps : String) : Oper := { dst := some 20, op := .fieldAddr 47 (.tmp 4) 0, type := 0, pos := ps, after := #[{ on := 7, ground := .gcOnly .lateStores }], guard := none }
def wg4O3 (ps : String) : Oper := { dst := some 21, op := .load 3 (.tmp 20), type := 3, pos := ps, after := #[{ on := 2, ground := .data }, { on := 7, ground := .gcOnly .lateStores }], guard := none }
def wg4O4 (ps : String) : Oper := { dst := some 22, op := .fieldAddr 47 (.tmp 4) 1, type := 0, pos := ps, after := #[{ on := 9, ground := .gcOnly .lateStores }], guard := none }
def wg4O5 (ps : String) : Oper := { dst := some 23, op := .load 3 (.tmp 22), type := 3, pos := ps, after := #[{ on := 4, ground := .data }, { on := 9, ground := .gcOnly .lateStores }], guard := none }
def wg4O6 (ps : String) : Oper := { dst := some 24, op := .fieldAddr 23 (.tmp 3) 1, type := 0, pos := ps, after := #[{ on := 0, ground := .phase }, { on := 1, ground := .phase }, { on := 2, ground := .textOnly .lateStores }, { on := 3, ground := .textOnly .lateStores }, { on := 4, ground := .textOnly .lateStores }, { on := 5, ground := .textOnly .lateStores }], guard := none }
def wg4O7 (ps : String) : Oper := { dst := none, op := .store 3 (.tmp 24) (.tmp 19), type := 0, pos := ps, after := #[{ on := 6, ground := .data }, { on := 1, ground := .data }, { on := 0, ground := .phase }, { on := 1, ground := .phase }, { on := 2, ground := .textOnly .lateStores }, { on := 3, ground := .textOnly .lateStores }, { on := 4, ground := .textOnly .lateStores }, { on := 5, ground := .textOnly .lateStores }], guard := none }
def wg4O8 (ps : String) : Oper := { dst := some 25, op := .fieldAddr 23 (.tmp 3) 3, type := 0, pos := ps, after := #[{ on := 0, ground := .phase }, { on := 1, ground := .phase }, { on := 2, ground := .phase }, { on := 3, ground := .phase }, { on := 4, ground := .textOnly .lateStores }, { on := 5, ground := .textOnly .lateStores }, { on := 6, ground := .phase }, { on := 7, ground := .phase }], guard := none }
def wg4O9 (ps : String) : Oper := { dst := none, op := .store 3 (.tmp 25) (.tmp 21), type := 0, pos := ps, after := #[{ on := 8, ground := .data }, { on := 3, ground := .data }, { on := 7, ground := .chain }, { on := 0, ground := .phase }, { on := 1, ground := .phase }, { on := 2, ground := .phase }, { on := 3, ground := .phase }, { on := 4, ground := .textOnly .lateStores }, { on := 5, ground := .textOnly .lateStores }, { on := 6, ground := .phase }, { on := 7, ground := .phase }], guard := none }
def wg4O10 (ps : String) : Oper := { dst := some 26, op := .fieldAddr 23 (.tmp 3) 4, type := 0, pos := ps, after := #[{ on := 0, ground := .phase }, { on := 1, ground := .phase }, { on := 2, ground := .phase }, { on := 3, ground := .phase }, { on := 4, ground := .phase }, { on := 5, ground := .phase }, { on := 6, ground := .phase }, { on := 7, ground := .phase }, { on := 8, ground := .phase }, { on := 9, ground := .phase }], guard := none }
def wg4O11 (ps : String) : Oper := { dst := none, op := .store 3 (.tmp 26) (.tmp 23), type := 0, pos := ps, after := #[{ on := 10, ground := .data }, { on := 5, ground := .data }, { on := 9, ground := .chain }, { on := 0, ground := .phase }, { on := 1, ground := .phase }, { on := 2, ground := .phase }, { on := 3, ground := .phase }, { on := 4, ground := .phase }, { on := 5, ground := .phase }, { on := 6, ground := .phase }, { on := 7, ground := .phase }, { on := 8, ground := .phase }, { on := 9, ground := .phase }], guard := none }
def wg4 (ps : String) : Array Oper := #[wg4O0 ps, wg4O1 ps, wg4O2 ps, wg4O3 ps, wg4O4 ps, wg4O5 ps, wg4O6 ps, wg4O7 ps, wg4O8 ps, wg4O9 ps, wg4O10 ps, wg4O11 ps]
theorem wg4_0 (ps : String) : (wg4 ps)[0]? = some (wg4O0 ps) := rfl
theorem wg4_1 (ps : String) : (wg4 ps)[1]? = some (wg4O1 ps) := rfl
theorem wg4_2 (ps : String) : (wg4 ps)[2]? = some (wg4O2 ps) := rfl
theorem wg4_3 (ps : String) : (wg4 ps)[3]? = some (wg4O3 ps) := rfl
theorem wg4_4 (ps : String) : (wg4 ps)[4]? = some (wg4O4 ps) := rfl
theorem wg4_5 (ps : String) : (wg4 ps)[5]? = some (wg4O5 ps) := rfl
theorem wg4_6 (ps : String) : (wg4 ps)[6]? = some (wg4O6 ps) := rfl
theorem wg4_7 (ps : String) : (wg4 ps)[7]? = some (wg4O7 ps) := rfl
theorem wg4_8 (ps : String) : (wg4 ps)[8]? = some (wg4O8 ps) := rfl
theorem wg4_9 (ps : String) : (wg4 ps)[9]? = some (wg4O9 ps) := rfl
theorem wg4_10 (ps : String) : (wg4 ps)[10]? = some (wg4O10 ps) := rfl
theorem wg4_11 (ps : String) : (wg4 ps)[11]? = some (wg4O11 ps) := rfl
def wg4D : Nat → Option Tmp
  | 0 => some 18
  | 1 => some 19
  | 2 => some 20
  | 3 => some 21
  | 4 => some 22
  | 5 => some 23
  | 6 => some 24
  | 7 => none
  | 8 => some 25
  | 9 => none
  | 10 => some 26
  | 11 => none
  | _ => none
def wg4T (p : Wn) (q : Sg) (u : Int) (g b r B0 : Nat) (WW : World) : Nat → Value
  | 0 => .pointer (some ⟨b, 2, none⟩)
  | 1 => .int .i64 q.pz
  | 2 => .pointer (some ⟨b, 0, none⟩)
  | 3 => .int .i64 q.pa
  | 4 => .pointer (some ⟨b, 1, none⟩)
  | 5 => .int .i64 q.pk
  | 6 => .pointer (some ⟨g, 1, none⟩)
  | 7 => undef
  | 8 => .pointer (some ⟨g, 3, none⟩)
  | 9 => undef
  | 10 => .pointer (some ⟨g, 4, none⟩)
  | 11 => undef
  | _ => undef
set_option maxRecDepth 100000 in
set_option maxHeartbeats 4000000 in
theorem wg4_reg {ps : String} {Q : Exit → Act → World → Prop} {a0 : Act} {W0 : World} (sz : a0.tmps.size = 44) (p : Wn) (q : Sg) (u : Int) (g b r B0 : Nat) (WW : World)
    (e3 : a0.eval (.tmp 3) = .pointer (some ⟨g, 0, none⟩)) (e4 : a0.eval (.tmp 4) = .pointer (some ⟨b, 0, none⟩))
    (l0 : B0 ≤ g) (l1 : g < b) (l2 : b < r) (hS0 : Below B0 WW W0 ∧ Box W0 g 23 (wnL ⟨u, (if false = true then q.pz else p.sz), p.ed, (if false = true then q.pa else p.l1), (if false = true then q.pk else p.l2), p.mo, p.tr⟩) ∧ Box W0 b 47 (sgL q) ∧ Box W0 r 23 (wnL wnZ) ∧ True)
    (hfin : ∀ (T : Nat → Value) w, Below B0 WW w ∧ Box w g 23 (wnL ⟨u, q.pz, p.ed, q.pa, q.pk, p.mo, p.tr⟩) ∧ Box w b 47 (sgL q) ∧ Box w r 23 (wnL wnZ) ∧ True → Q .normal (((((((((a0.put (some 18) (T 0)).put (some 19) (T 1)).put (some 20) (T 2)).put (some 21) (T 3)).put (some 22) (T 4)).put (some 23) (T 5)).put (some 24) (T 6)).put (some 25) (T 8)).put (some 26) (T 10)) w) :
    (Code.region 4 (wg4 ps) true).wp Try.prog Q a0 W0 := by
  refine wp_region_dets (by kernel_rfl) 12 rfl wg4D ?_ (by decide) (wg4T p q u g b r B0 WW) (fun D w => Below B0 WW w ∧ Box w g 23 (wnL ⟨u, (if D 7 = true then q.pz else p.sz), p.ed, (if D 9 = true then q.pa else p.l1), (if D 11 = true then q.pk else p.l2), p.mo, p.tr⟩) ∧ Box w b 47 (sgL q) ∧ Box w r 23 (wnL wnZ) ∧ True) (fun D hD => by
    show Below B0 WW W0.drew ∧ Box W0.drew g 23 (wnL ⟨u, (if D 7 = true then q.pz else p.sz), p.ed, (if D 9 = true then q.pa else p.l1), (if D 11 = true then q.pk else p.l2), p.mo, p.tr⟩) ∧ Box W0.drew b 47 (sgL q) ∧ Box W0.drew r 23 (wnL wnZ) ∧ True
    rw [hD 7, hD 9, hD 11]
    exact ⟨hS0.1.drew, hS0.2.1, hS0.2.2.1, hS0.2.2.2.1, trivial⟩) ?_ (by rfl) (fun w D hD hSw => by
    have hSw' : Below B0 WW w ∧ Box w g 23 (wnL ⟨u, (if D 7 = true then q.pz else p.sz), p.ed, (if D 9 = true then q.pa else p.l1), (if D 11 = true then q.pk else p.l2), p.mo, p.tr⟩) ∧ Box w b 47 (sgL q) ∧ Box w r 23 (wnL wnZ) ∧ True := hSw
    rw [hD 7 (by decide), hD 9 (by decide), hD 11 (by decide)] at hSw'
    exact hfin (wg4T p q u g b r B0 WW) w  hSw')
  · intro jq t hj ht
    have : ∀ j, j < 12 → (wg4D j).all (· < 44) = true := by decide
    have := this jq hj
    rw [ht] at this
    rw [sz]
    simpa using this
  · intro iq o ho D a w hSw hDi hcl hs hel K hK
    have hin : iq < 12 := (Array.getElem?_eq_some_iff.1 ho).1
    match iq, hin, ho with
    | 0, _, ho =>
      obtain rfl := Option.some.inj (ho.symm.trans (wg4_0 ps))
      have u4 : a.eval (.tmp 4) = .pointer (some ⟨b, 0, none⟩) := (hel 4 (by decide)).trans e4
      exact op_valW (wg4_0 ps) rfl (v := .pointer (some ⟨b, 2, none⟩)) (by unfold wg4O0 execOp; simp only [u4]; first | (go_simp; done) | (go_simp; with_reducible rfl)) (hK w (fun D' hi' hj' => by
        have hd7 : D' 7 = D 7 := hj' 7 (by decide)
        have hd9 : D' 9 = D 9 := hj' 9 (by decide)
        have hd11 : D' 11 = D 11 := hj' 11 (by decide)
        show Below B0 WW w ∧ Box w g 23 (wnL ⟨u, (if D' 7 = true then q.pz else p.sz), p.ed, (if D' 9 = true then q.pa else p.l1), (if D' 11 = true then q.pk else p.l2), p.mo, p.tr⟩) ∧ Box w b 47 (sgL q) ∧ Box w r 23 (wnL wnZ) ∧ True
        rw [hd7, hd9, hd11]
        exact hSw))
    | 1, _, ho =>
      obtain rfl := Option.some.inj (ho.symm.trans (wg4_1 ps))
      have s0 : a.eval (.tmp 18) = .pointer (some ⟨b, 2, none⟩) := hs 0 18 (by rfl) rfl
      have hcl := Box.cell hSw.2.2.1 2 rfl
      exact op_valW (wg4_1 ps) rfl (v := .int .i64 q.pz) (by unfold wg4O1 execOp; simp only [s0]; first | (go_simp; done) | (go_simp; with_reducible rfl)) (hK w (fun D' hi' hj' => by
        have hd7 : D' 7 = D 7 := hj' 7 (by decide)
        have hd9 : D' 9 = D 9 := hj' 9 (by decide)
        have hd11 : D' 11 = D 11 := hj' 11 (by decide)
        show Below B0 WW w ∧ Box w g 23 (wnL ⟨u, (if D' 7 = true then q.pz else p.sz), p.ed, (if D' 9 = true then q.pa else p.l1), (if D' 11 = true then q.pk else p.l2), p.mo, p.tr⟩) ∧ Box w b 47 (sgL q) ∧ Box w r 23 (wnL wnZ) ∧ True
        rw [hd7, hd9, hd11]
        exact hSw))
    | 2, _, ho =>
      obtain rfl := Option.some.inj (ho.symm.trans (wg4_2 ps))
      have u4 : a.eval (.tmp 4) = .pointer (some ⟨b, 0, none⟩) := (hel 4 (by decide)).trans e4
      exact op_valW (wg4_2 ps) rfl (v := .pointer (some ⟨b, 0, none⟩)) (by unfold wg4O2 execOp; simp only [u4]; first | (go_simp; done) | (go_simp; with_reducible rfl)) (hK w (fun D' hi' hj' => by
        have hd7 : D' 7 = D 7 := hj' 7 (by decide)
        have hd9 : D' 9 = D 9 := hj' 9 (by decide)
        have hd11 : D' 11 = D 11 := hj' 11 (by decide)
        show Below B0 WW w ∧ Box w g 23 (wnL ⟨u, (if D' 7 = true then q.pz else p.sz), p.ed, (if D' 9 = true then q.pa else p.l1), (if D' 11 = true then q.pk else p.l2), p.mo, p.tr⟩) ∧ Box w b 47 (sgL q) ∧ Box w r 23 (wnL wnZ) ∧ True
        rw [hd7, hd9, hd11]
        exact hSw))
    | 3, _, ho =>
      obtain rfl := Option.some.inj (ho.symm.trans (wg4_3 ps))
      have s2 : a.eval (.tmp 20) = .pointer (some ⟨b, 0, none⟩) := hs 2 20 (by rfl) rfl
      have hcl := Box.cell hSw.2.2.1 0 rfl
      exact op_valW (wg4_3 ps) rfl (v := .int .i64 q.pa) (by unfold wg4O3 execOp; simp only [s2]; first | (go_simp; done) | (go_simp; with_reducible rfl)) (hK w (fun D' hi' hj' => by
        have hd7 : D' 7 = D 7 := hj' 7 (by decide)
        have hd9 : D' 9 = D 9 := hj' 9 (by decide)
        have hd11 : D' 11 = D 11 := hj' 11 (by decide)
        show Below B0 WW w ∧ Box w g 23 (wnL ⟨u, (if D' 7 = true then q.pz else p.sz), p.ed, (if D' 9 = true then q.pa else p.l1), (if D' 11 = true then q.pk else p.l2), p.mo, p.tr⟩) ∧ Box w b 47 (sgL q) ∧ Box w r 23 (wnL wnZ) ∧ True
        rw [hd7, hd9, hd11]
        exact hSw))
    | 4, _, ho =>
      obtain rfl := Option.some.inj (ho.symm.trans (wg4_4 ps))
      have u4 : a.eval (.tmp 4) = .pointer (some ⟨b, 0, none⟩) := (hel 4 (by decide)).trans e4
      exact op_valW (wg4_4 ps) rfl (v := .pointer (some ⟨b, 1, none⟩)) (by unfold wg4O4 execOp; simp only [u4]; first | (go_simp; done) | (go_simp; with_reducible rfl)) (hK w (fun D' hi' hj' => by
        have hd7 : D' 7 = D 7 := hj' 7 (by decide)
        have hd9 : D' 9 = D 9 := hj' 9 (by decide)
        have hd11 : D' 11 = D 11 := hj' 11 (by decide)
        show Below B0 WW w ∧ Box w g 23 (wnL ⟨u, (if D' 7 = true then q.pz else p.sz), p.ed, (if D' 9 = true then q.pa else p.l1), (if D' 11 = true then q.pk else p.l2), p.mo, p.tr⟩) ∧ Box w b 47 (sgL q) ∧ Box w r 23 (wnL wnZ) ∧ True
        rw [hd7, hd9, hd11]
        exact hSw))
    | 5, _, ho =>
      obtain rfl := Option.some.inj (ho.symm.trans (wg4_5 ps))
      have s4 : a.eval (.tmp 22) = .pointer (some ⟨b, 1, none⟩) := hs 4 22 (by rfl) rfl
      have hcl := Box.cell hSw.2.2.1 1 rfl
      exact op_valW (wg4_5 ps) rfl (v := .int .i64 q.pk) (by unfold wg4O5 execOp; simp only [s4]; first | (go_simp; done) | (go_simp; with_reducible rfl)) (hK w (fun D' hi' hj' => by
        have hd7 : D' 7 = D 7 := hj' 7 (by decide)
        have hd9 : D' 9 = D 9 := hj' 9 (by decide)
        have hd11 : D' 11 = D 11 := hj' 11 (by decide)
        show Below B0 WW w ∧ Box w g 23 (wnL ⟨u, (if D' 7 = true then q.pz else p.sz), p.ed, (if D' 9 = true then q.pa else p.l1), (if D' 11 = true then q.pk else p.l2), p.mo, p.tr⟩) ∧ Box w b 47 (sgL q) ∧ Box w r 23 (wnL wnZ) ∧ True
        rw [hd7, hd9, hd11]
        exact hSw))
    | 6, _, ho =>
      obtain rfl := Option.some.inj (ho.symm.trans (wg4_6 ps))
      have u3 : a.eval (.tmp 3) = .pointer (some ⟨g, 0, none⟩) := (hel 3 (by decide)).trans e3
      exact op_valW (wg4_6 ps) rfl (v := .pointer (some ⟨g, 1, none⟩)) (by unfold wg4O6 execOp; simp only [u3]; first | (go_simp; done) | (go_simp; with_reducible rfl)) (hK w (fun D' hi' hj' => by
        have hd7 : D' 7 = D 7 := hj' 7 (by decide)
        have hd9 : D' 9 = D 9 := hj' 9 (by decide)
        have hd11 : D' 11 = D 11 := hj' 11 (by decide)
        show Below B0 WW w ∧ Box w g 23 (wnL ⟨u, (if D' 7 = true then q.pz else p.sz), p.ed, (if D' 9 = true then q.pa else p.l1), (if D' 11 = true then q.pk else p.l2), p.mo, p.tr⟩) ∧ Box w b 47 (sgL q) ∧ Box w r 23 (wnL wnZ) ∧ True
        rw [hd7, hd9, hd11]
        exact hSw))
    | 7, _, ho =>
      obtain rfl := Option.some.inj (ho.symm.trans (wg4_7 ps))
      have s6 : a.eval (.tmp 24) = .pointer (some ⟨g, 1, none⟩) := hs 6 24 (by rfl) rfl
      have s1 : a.eval (.tmp 19) = .int .i64 q.pz := hs 1 19 (by rfl) rfl
      have hfz := Box.frozen hSw.2.1 1
      have hcx := Box.cell hSw.2.1 1 rfl
      exact op_stoW (wg4_7 ps) rfl rfl (w' := (w.setCell ⟨g, 1, none⟩ (.int .i64 q.pz))) (by unfold wg4O7 execOp; simp only [s6, s1]; first | (go_simp; done) | (go_simp; with_reducible rfl)) (hK _ (fun D' hi' hj' => by
        have hd7 : D' 7 = true := hi'
        have hd9 : D' 9 = D 9 := hj' 9 (by decide)
        have hd11 : D' 11 = D 11 := hj' 11 (by decide)
        show Below B0 WW (w.setCell ⟨g, 1, none⟩ (.int .i64 q.pz)) ∧ Box (w.setCell ⟨g, 1, none⟩ (.int .i64 q.pz)) g 23 (wnL ⟨u, (if D' 7 = true then q.pz else p.sz), p.ed, (if D' 9 = true then q.pa else p.l1), (if D' 11 = true then q.pk else p.l2), p.mo, p.tr⟩) ∧ Box (w.setCell ⟨g, 1, none⟩ (.int .i64 q.pz)) b 47 (sgL q) ∧ Box (w.setCell ⟨g, 1, none⟩ (.int .i64 q.pz)) r 23 (wnL wnZ) ∧ True
        rw [hd7, hd9, hd11]
        exact ⟨((Sto.refl w g).set 1 (.int .i64 q.pz)).below _ _ (by omega) hSw.1, hSw.2.1.set 1 (.int .i64 q.pz), hSw.2.2.1.sto ((Sto.refl w g).set 1 (.int .i64 q.pz)) (by omega), hSw.2.2.2.1.sto ((Sto.refl w g).set 1 (.int .i64 q.pz)) (by omega), trivial⟩))
    | 8, _, ho =>
      obtain rfl := Option.some.inj (ho.symm.trans (wg4_8 ps))
      have u3 : a.eval (.tmp 3) = .pointer (some ⟨g, 0, none⟩) := (hel 3 (by decide)).trans e3
      exact op_valW (wg4_8 ps) rfl (v := .pointer (some ⟨g, 3, none⟩)) (by unfold wg4O8 execOp; simp only [u3]; first | (go_simp; done) | (go_simp; with_reducible rfl)) (hK w (fun D' hi' hj' => by
        have hd7 : D' 7 = D 7 := hj' 7 (by decide)
        have hd9 : D' 9 = D 9 := hj' 9 (by decide)
        have hd11 : D' 11 = D 11 := hj' 11 (by decide)
        show Below B0 WW w ∧ Box w g 23 (wnL ⟨u, (if D' 7 = true then q.pz else p.sz), p.ed, (if D' 9 = true then q.pa else p.l1), (if D' 11 = true then q.pk else p.l2), p.mo, p.tr⟩) ∧ Box w b 47 (sgL q) ∧ Box w r 23 (wnL wnZ) ∧ True
        rw [hd7, hd9, hd11]
        exact hSw))
    | 9, _, ho =>
      obtain rfl := Option.some.inj (ho.symm.trans (wg4_9 ps))
      have s8 : a.eval (.tmp 25) = .pointer (some ⟨g, 3, none⟩) := hs 8 25 (by rfl) rfl
      have s3 : a.eval (.tmp 21) = .int .i64 q.pa := hs 3 21 (by rfl) rfl
      have hfz := Box.frozen hSw.2.1 3
      have hcx := Box.cell hSw.2.1 3 rfl
      exact op_stoW (wg4_9 ps) rfl rfl (w' := (w.setCell ⟨g, 3, none⟩ (.int .i64 q.pa))) (by unfold wg4O9 execOp; simp only [s8, s3]; first | (go_simp; done) | (go_simp; with_reducible rfl)) (hK _ (fun D' hi' hj' => by
        have hd7 : D' 7 = D 7 := hj' 7 (by decide)
        have hd9 : D' 9 = true := hi'
        have hd11 : D' 11 = D 11 := hj' 11 (by decide)
        show Below B0 WW (w.setCell ⟨g, 3, none⟩ (.int .i64 q.pa)) ∧ Box (w.setCell ⟨g, 3, none⟩ (.int .i64 q.pa)) g 23 (wnL ⟨u, (if D' 7 = true then q.pz else p.sz), p.ed, (if D' 9 = true then q.pa else p.l1), (if D' 11 = true then q.pk else p.l2), p.mo, p.tr⟩) ∧ Box (w.setCell ⟨g, 3, none⟩ (.int .i64 q.pa)) b 47 (sgL q) ∧ Box (w.setCell ⟨g, 3, none⟩ (.int .i64 q.pa)) r 23 (wnL wnZ) ∧ True
        rw [hd7, hd9, hd11]
        exact ⟨((Sto.refl w g).set 3 (.int .i64 q.pa)).below _ _ (by omega) hSw.1, hSw.2.1.set 3 (.int .i64 q.pa), hSw.2.2.1.sto ((Sto.refl w g).set 3 (.int .i64 q.pa)) (by omega), hSw.2.2.2.1.sto ((Sto.refl w g).set 3 (.int .i64 q.pa)) (by omega), trivial⟩))
    | 10, _, ho =>
      obtain rfl := Option.some.inj (ho.symm.trans (wg4_10 ps))
      have u3 : a.eval (.tmp 3) = .pointer (some ⟨g, 0, none⟩) := (hel 3 (by decide)).trans e3
      exact op_valW (wg4_10 ps) rfl (v := .pointer (some ⟨g, 4, none⟩)) (by unfold wg4O10 execOp; simp only [u3]; first | (go_simp; done) | (go_simp; with_reducible rfl)) (hK w (fun D' hi' hj' => by
        have hd7 : D' 7 = D 7 := hj' 7 (by decide)
        have hd9 : D' 9 = D 9 := hj' 9 (by decide)
        have hd11 : D' 11 = D 11 := hj' 11 (by decide)
        show Below B0 WW w ∧ Box w g 23 (wnL ⟨u, (if D' 7 = true then q.pz else p.sz), p.ed, (if D' 9 = true then q.pa else p.l1), (if D' 11 = true then q.pk else p.l2), p.mo, p.tr⟩) ∧ Box w b 47 (sgL q) ∧ Box w r 23 (wnL wnZ) ∧ True
        rw [hd7, hd9, hd11]
        exact hSw))
    | 11, _, ho =>
      obtain rfl := Option.some.inj (ho.symm.trans (wg4_11 ps))
      have s10 : a.eval (.tmp 26) = .pointer (some ⟨g, 4, none⟩) := hs 10 26 (by rfl) rfl
      have s5 : a.eval (.tmp 23) = .int .i64 q.pk := hs 5 23 (by rfl) rfl
      have hfz := Box.frozen hSw.2.1 4
      have hcx := Box.cell hSw.2.1 4 rfl
      exact op_stoW (wg4_11 ps) rfl rfl (w' := (w.setCell ⟨g, 4, none⟩ (.int .i64 q.pk))) (by unfold wg4O11 execOp; simp only [s10, s5]; first | (go_simp; done) | (go_simp; with_reducible rfl)) (hK _ (fun D' hi' hj' => by
        have hd7 : D' 7 = D 7 := hj' 7 (by decide)
        have hd9 : D' 9 = D 9 := hj' 9 (by decide)
        have hd11 : D' 11 = true := hi'
        show Below B0 WW (w.setCell ⟨g, 4, none⟩ (.int .i64 q.pk)) ∧ Box (w.setCell ⟨g, 4, none⟩ (.int .i64 q.pk)) g 23 (wnL ⟨u, (if D' 7 = true then q.pz else p.sz), p.ed, (if D' 9 = true then q.pa else p.l1), (if D' 11 = true then q.pk else p.l2), p.mo, p.tr⟩) ∧ Box (w.setCell ⟨g, 4, none⟩ (.int .i64 q.pk)) b 47 (sgL q) ∧ Box (w.setCell ⟨g, 4, none⟩ (.int .i64 q.pk)) r 23 (wnL wnZ) ∧ True
        rw [hd7, hd9, hd11]
        exact ⟨((Sto.refl w g).set 4 (.int .i64 q.pk)).below _ _ (by omega) hSw.1, hSw.2.1.set 4 (.int .i64 q.pk), hSw.2.2.1.sto ((Sto.refl w g).set 4 (.int .i64 q.pk)) (by omega), hSw.2.2.2.1.sto ((Sto.refl w g).set 4 (.int .i64 q.pk)) (by omega), trivial⟩))
    | iq + 12, hin, _ => exact absurd hin (by omega)
def wg6O0 (ps : String) : Oper := { dst := some 33, op := .fieldAddr 23 (.tmp 3) 2, type := 0, pos := ps, after := #[], guard := none }
def wg6O1 (ps : String) : Oper := { dst := some 34, op := .load 3 (.tmp 33), type := 3, pos := ps, after := #[{ on := 0, ground := .data }], guard := none }
def wg6O2 (ps : String) : Oper := { dst := some 35, op := .load 23 (.tmp 3), type := 23, pos := ps, after := #[], guard := none }
def wg6O3 (ps : String) : Oper := { dst := some 36, op := .call { callee := .value (.func 25), args := #[.tmp 35], argTypes := #[23] }, type := 3, pos := ps, after := #[{ on := 2, ground := .data }], guard := none }
def wg6O4 (ps : String) : Oper := { dst := some 37, op := .call { callee := .builtin .max, args := #[.tmp 34, .tmp 36], argTypes := #[3, 3] }, type := 3, pos := ps, after := #[{ on := 1, ground := .data }, { on := 3, ground := .data }], guard := none }
def wg6O5 (ps : String) : Oper := { dst := some 38, op := .fieldAddr 23 (.tmp 3) 2, type := 0, pos := ps, after := #[{ on := 0, ground := .phase }, { on := 1, ground := .phase }, { on := 2, ground := .phase }, { on := 3, ground := .phase }, { on := 4, ground := .phase }], guard := none }
def wg6O6 (ps : String) : Oper := { dst := none, op := .store 3 (.tmp 38) (.tmp 37), type := 0, pos := ps, after := #[{ on := 5, ground := .data }, { on := 4, ground := .data }, { on := 3, ground := .chain }, { on := 0, ground := .phase }, { on := 1, ground := .phase }, { on := 2, ground := .phase }, { on := 3, ground := .phase }, { on := 4, ground := .phase }], guard := none }
def wg6 (ps : String) : Array Oper := #[wg6O0 ps, wg6O1 ps, wg6O2 ps, wg6O3 ps, wg6O4 ps, wg6O5 ps, wg6O6 ps]
theorem wg6_0 (ps : String) : (wg6 ps)[0]? = some (wg6O0 ps) := rfl
theorem wg6_1 (ps : String) : (wg6 ps)[1]? = some (wg6O1 ps) := rfl
theorem wg6_2 (ps : String) : (wg6 ps)[2]? = some (wg6O2 ps) := rfl
theorem wg6_3 (ps : String) : (wg6 ps)[3]? = some (wg6O3 ps) := rfl
theorem wg6_4 (ps : String) : (wg6 ps)[4]? = some (wg6O4 ps) := rfl
theorem wg6_5 (ps : String) : (wg6 ps)[5]? = some (wg6O5 ps) := rfl
theorem wg6_6 (ps : String) : (wg6 ps)[6]? = some (wg6O6 ps) := rfl
def wg6D : Nat → Option Tmp
  | 0 => some 33
  | 1 => some 34
  | 2 => some 35
  | 3 => some 36
  | 4 => some 37
  | 5 => some 38
  | 6 => none
  | _ => none
def wg6T (p : Wn) (q : Sg) (u m d : Int) (g b r B0 : Nat) (WW : World) : Nat → Value
  | 0 => .pointer (some ⟨g, 2, none⟩)
  | 1 => .int .i64 p.ed
  | 2 => agv (wnL ⟨u, q.pz, p.ed, q.pa, q.pk, m, p.tr⟩)
  | 3 => .int .i64 (q.pk + q.pz)
  | 4 => .int .i64 d
  | 5 => .pointer (some ⟨g, 2, none⟩)
  | 6 => undef
  | _ => undef
set_option maxRecDepth 100000 in
set_option maxHeartbeats 4000000 in
theorem wg6_reg {ps : String} {Q : Exit → Act → World → Prop} {a0 : Act} {W0 : World} (sz : a0.tmps.size = 44) (p : Wn) (q : Sg) (u m d : Int) (g b r B0 : Nat) (WW : World)
    (e3 : a0.eval (.tmp 3) = .pointer (some ⟨g, 0, none⟩))
    (l0 : B0 ≤ g) (l1 : g < b) (l2 : b < r) (hS0 : Below B0 WW W0 ∧ Box W0 g 23 (wnL ⟨u, q.pz, (if false = true then d else p.ed), q.pa, q.pk, m, p.tr⟩) ∧ Box W0 b 47 (sgL q) ∧ Box W0 r 23 (wnL wnZ) ∧ True) (hd : max p.ed (q.pk + q.pz) = d) (c3 : ∀ W, Calls Try.prog 25 #[agv (wnL ⟨u, q.pz, p.ed, q.pa, q.pk, m, p.tr⟩)] W fun e w' => e = .returned (.int .i64 (q.pk + q.pz)) ∧ Below W.heap.size W w') 
    (hfin : ∀ (T : Nat → Value) w, Below B0 WW w ∧ Box w g 23 (wnL ⟨u, q.pz, d, q.pa, q.pk, m, p.tr⟩) ∧ Box w b 47 (sgL q) ∧ Box w r 23 (wnL wnZ) ∧ True → Q .normal ((((((a0.put (some 33) (T 0)).put (some 34) (T 1)).put (some 35) (T 2)).put (some 36) (T 3)).put (some 37) (T 4)).put (some 38) (T 5)) w) :
    (Code.region 6 (wg6 ps) true).wp Try.prog Q a0 W0 := by
  refine wp_region_dets (by kernel_rfl) 7 rfl wg6D ?_ (by decide) (wg6T p q u m d g b r B0 WW) (fun D w => Below B0 WW w ∧ Box w g 23 (wnL ⟨u, q.pz, (if D 6 = true then d else p.ed), q.pa, q.pk, m, p.tr⟩) ∧ Box w b 47 (sgL q) ∧ Box w r 23 (wnL wnZ) ∧ True) (fun D hD => by
    show Below B0 WW W0.drew ∧ Box W0.drew g 23 (wnL ⟨u, q.pz, (if D 6 = true then d else p.ed), q.pa, q.pk, m, p.tr⟩) ∧ Box W0.drew b 47 (sgL q) ∧ Box W0.drew r 23 (wnL wnZ) ∧ True
    rw [hD 6]
    exact ⟨hS0.1.drew, hS0.2.1, hS0.2.2.1, hS0.2.2.2.1, trivial⟩) ?_ (by rfl) (fun w D hD hSw => by
    have hSw' : Below B0 WW w ∧ Box w g 23 (wnL ⟨u, q.pz, (if D 6 = true then d else p.ed), q.pa, q.pk, m, p.tr⟩) ∧ Box w b 47 (sgL q) ∧ Box w r 23 (wnL wnZ) ∧ True := hSw
    rw [hD 6 (by decide)] at hSw'
    exact hfin (wg6T p q u m d g b r B0 WW) w  hSw')
  · intro jq t hj ht
    have : ∀ j, j < 7 → (wg6D j).all (· < 44) = true := by decide
    have := this jq hj
    rw [ht] at this
    rw [sz]
    simpa using this
  · intro iq o ho D a w hSw hDi hcl hs hel K hK
    have hin : iq < 7 := (Array.getElem?_eq_some_iff.1 ho).1
    match iq, hin, ho with
    | 0, _, ho =>
      obtain rfl := Option.some.inj (ho.symm.trans (wg6_0 ps))
      have u3 : a.eval (.tmp 3) = .pointer (some ⟨g, 0, none⟩) := (hel 3 (by decide)).trans e3
      exact op_valW (wg6_0 ps) rfl (v := .pointer (some ⟨g, 2, none⟩)) (by unfold wg6O0 execOp; simp only [u3]; first | (go_simp; done) | (go_simp; with_reducible rfl)) (hK w (fun D' hi' hj' => by
        have hd6 : D' 6 = D 6 := hj' 6 (by decide)
        show Below B0 WW w ∧ Box w g 23 (wnL ⟨u, q.pz, (if D' 6 = true then d else p.ed), q.pa, q.pk, m, p.tr⟩) ∧ Box w b 47 (sgL q) ∧ Box w r 23 (wnL wnZ) ∧ True
        rw [hd6]
        exact hSw))
    | 1, _, ho =>
      obtain rfl := Option.some.inj (ho.symm.trans (wg6_1 ps))
      have s0 : a.eval (.tmp 33) = .pointer (some ⟨g, 2, none⟩) := hs 0 33 (by rfl) rfl
      have hn6 : D 6 = false := by
        cases h : D 6 with
        | false => rfl
        | true => exact absurd (hcl 6 _ 1 (wg6_6 ps) (by rfl) h) (by rw [hDi]; simp)
      have hb' : Box w g 23 (wnL ⟨u, q.pz, p.ed, q.pa, q.pk, m, p.tr⟩) := by
        have hb2 := hSw.2.1
        rw [hn6] at hb2
        exact hb2
      have hcl := Box.cell hb' 2 rfl
      exact op_valW (wg6_1 ps) rfl (v := .int .i64 p.ed) (by unfold wg6O1 execOp; simp only [s0]; first | (go_simp; done) | (go_simp; with_reducible rfl)) (hK w (fun D' hi' hj' => by
        have hd6 : D' 6 = D 6 := hj' 6 (by decide)
        show Below B0 WW w ∧ Box w g 23 (wnL ⟨u, q.pz, (if D' 6 = true then d else p.ed), q.pa, q.pk, m, p.tr⟩) ∧ Box w b 47 (sgL q) ∧ Box w r 23 (wnL wnZ) ∧ True
        rw [hd6]
        exact hSw))
    | 2, _, ho =>
      obtain rfl := Option.some.inj (ho.symm.trans (wg6_2 ps))
      have u3 : a.eval (.tmp 3) = .pointer (some ⟨g, 0, none⟩) := (hel 3 (by decide)).trans e3
      have hn6 : D 6 = false := by
        cases h : D 6 with
        | false => rfl
        | true => exact absurd (hcl 6 _ 2 (wg6_6 ps) (by rfl) h) (by rw [hDi]; simp)
      have hb' : Box w g 23 (wnL ⟨u, q.pz, p.ed, q.pa, q.pk, m, p.tr⟩) := by
        have hb2 := hSw.2.1
        rw [hn6] at hb2
        exact hb2
      exact op_valW (wg6_2 ps) rfl (v := agv (wnL ⟨u, q.pz, p.ed, q.pa, q.pk, m, p.tr⟩)) (run_loadS isS23 rfl u3 hb') (hK w (fun D' hi' hj' => by
        have hd6 : D' 6 = D 6 := hj' 6 (by decide)
        show Below B0 WW w ∧ Box w g 23 (wnL ⟨u, q.pz, (if D' 6 = true then d else p.ed), q.pa, q.pk, m, p.tr⟩) ∧ Box w b 47 (sgL q) ∧ Box w r 23 (wnL wnZ) ∧ True
        rw [hd6]
        exact hSw))
    | 3, _, ho =>
      obtain rfl := Option.some.inj (ho.symm.trans (wg6_3 ps))
      have s2 : a.eval (.tmp 35) = agv (wnL ⟨u, q.pz, p.ed, q.pa, q.pk, m, p.tr⟩) := hs 2 35 (by rfl) rfl
      exact op_enterW (wg6_3 ps) rfl (f := 25) (args := #[agv (wnL ⟨u, q.pz, p.ed, q.pa, q.pk, m, p.tr⟩)]) (by rw [run_call rfl enter25]; simp only [List.map_toArray, List.map_cons, List.map_nil, s2]; try rfl) ((c3 w).mono (fun e w' hh => ⟨_, hh.1, hK w' (fun D' hi' hj' => by
        have hd6 : D' 6 = D 6 := hj' 6 (by decide)
        show Below B0 WW w' ∧ Box w' g 23 (wnL ⟨u, q.pz, (if D' 6 = true then d else p.ed), q.pa, q.pk, m, p.tr⟩) ∧ Box w' b 47 (sgL q) ∧ Box w' r 23 (wnL wnZ) ∧ True
        rw [hd6]
        exact ⟨hSw.1.trans (hh.2.mono (Nat.le_trans l0 (Nat.le_of_lt hSw.2.1.lt))), hSw.2.1.later hh.2, hSw.2.2.1.later hh.2, hSw.2.2.2.1.later hh.2, trivial⟩)⟩))
    | 4, _, ho =>
      obtain rfl := Option.some.inj (ho.symm.trans (wg6_4 ps))
      have s1 : a.eval (.tmp 34) = .int .i64 p.ed := hs 1 34 (by rfl) rfl
      have s3 : a.eval (.tmp 36) = .int .i64 (q.pk + q.pz) := hs 3 36 (by rfl) rfl
      have t34 : a.tmps[34]?.getD undef = .int .i64 p.ed := by simpa [Act.eval] using s1
      have t36 : a.tmps[36]?.getD undef = .int .i64 (q.pk + q.pz) := by simpa [Act.eval] using s3
      have hmn := fun W => max2 hd W
      exact op_valW (wg6_4 ps) rfl (v := .int .i64 d) (by unfold wg6O4 execOp; skip; first | (go_simp; done) | (go_simp; with_reducible rfl)) (hK w (fun D' hi' hj' => by
        have hd6 : D' 6 = D 6 := hj' 6 (by decide)
        show Below B0 WW w ∧ Box w g 23 (wnL ⟨u, q.pz, (if D' 6 = true then d else p.ed), q.pa, q.pk, m, p.tr⟩) ∧ Box w b 47 (sgL q) ∧ Box w r 23 (wnL wnZ) ∧ True
        rw [hd6]
        exact hSw))
    | 5, _, ho =>
      obtain rfl := Option.some.inj (ho.symm.trans (wg6_5 ps))
      have u3 : a.eval (.tmp 3) = .pointer (some ⟨g, 0, none⟩) := (hel 3 (by decide)).trans e3
      exact op_valW (wg6_5 ps) rfl (v := .pointer (some ⟨g, 2, none⟩)) (by unfold wg6O5 execOp; simp only [u3]; first | (go_simp; done) | (go_simp; with_reducible rfl)) (hK w (fun D' hi' hj' => by
        have hd6 : D' 6 = D 6 := hj' 6 (by decide)
        show Below B0 WW w ∧ Box w g 23 (wnL ⟨u, q.pz, (if D' 6 = true then d else p.ed), q.pa, q.pk, m, p.tr⟩) ∧ Box w b 47 (sgL q) ∧ Box w r 23 (wnL wnZ) ∧ True
        rw [hd6]
        exact hSw))
    | 6, _, ho =>
      obtain rfl := Option.some.inj (ho.symm.trans (wg6_6 ps))
      have s5 : a.eval (.tmp 38) = .pointer (some ⟨g, 2, none⟩) := hs 5 38 (by rfl) rfl
      have s4 : a.eval (.tmp 37) = .int .i64 d := hs 4 37 (by rfl) rfl
      have hb' : Box w g 23 (wnL ⟨u, q.pz, p.ed, q.pa, q.pk, m, p.tr⟩) := by
        have hb2 := hSw.2.1
        rw [hDi] at hb2
        exact hb2
      have hfz := Box.frozen hb' 2
      have hcx := Box.cell hb' 2 rfl
      exact op_stoW (wg6_6 ps) rfl rfl (w' := (w.setCell ⟨g, 2, none⟩ (.int .i64 d))) (by unfold wg6O6 execOp; simp only [s5, s4]; first | (go_simp; done) | (go_simp; with_reducible rfl)) (hK _ (fun D' hi' hj' => by
        have hd6 : D' 6 = true := hi'
        show Below B0 WW (w.setCell ⟨g, 2, none⟩ (.int .i64 d)) ∧ Box (w.setCell ⟨g, 2, none⟩ (.int .i64 d)) g 23 (wnL ⟨u, q.pz, (if D' 6 = true then d else p.ed), q.pa, q.pk, m, p.tr⟩) ∧ Box (w.setCell ⟨g, 2, none⟩ (.int .i64 d)) b 47 (sgL q) ∧ Box (w.setCell ⟨g, 2, none⟩ (.int .i64 d)) r 23 (wnL wnZ) ∧ True
        rw [hd6]
        exact ⟨((Sto.refl w g).set 2 (.int .i64 d)).below _ _ (by omega) hSw.1, hb'.set 2 (.int .i64 d), hSw.2.2.1.sto ((Sto.refl w g).set 2 (.int .i64 d)) (by omega), hSw.2.2.2.1.sto ((Sto.refl w g).set 2 (.int .i64 d)) (by omega), trivial⟩))
    | iq + 7, hin, _ => exact absurd hin (by omega)
end Go.Proofs.Ytliiogafemlagaa
