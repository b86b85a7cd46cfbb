/- Sent's regions that draw their order. -/
import Derived.Test.YtdgiapeniafklaaDets
namespace Go.Proofs.Ytdgiapeniafklaa
open Go.ChangeShapes Go.WideShapes Go.ChangeAt Go.RowKit Go.Shelf
set_option linter.unusedVariables false
set_option linter.unusedSimpArgs false
attribute [local go_sem] Oper.semAt_some

def sn8O0 (ps : String) : Oper := { dst := some 34, op := .fieldAddr 23 (.tmp 4) 0, type := 0, pos := ps, after := #[], guard := none }
def sn8O1 (ps : String) : Oper := { dst := some 35, op := .load 3 (.tmp 34), type := 3, pos := ps, after := #[{ on := 0, ground := .data }], guard := none }
def sn8O2 (ps : String) : Oper := { dst := some 36, op := .fieldAddr 23 (.tmp 4) 1, type := 0, pos := ps, after := #[{ on := 10, ground := .gcOnly .lateStores }], guard := none }
def sn8O3 (ps : String) : Oper := { dst := some 37, op := .load 3 (.tmp 36), type := 3, pos := ps, after := #[{ on := 2, ground := .data }, { on := 10, ground := .gcOnly .lateStores }], guard := none }
def sn8O4 (ps : String) : Oper := { dst := some 38, op := .fieldAddr 23 (.tmp 4) 2, type := 0, pos := ps, after := #[{ on := 12, ground := .gcOnly .lateStores }], guard := none }
def sn8O5 (ps : String) : Oper := { dst := some 39, op := .load 3 (.tmp 38), type := 3, pos := ps, after := #[{ on := 4, ground := .data }, { on := 12, ground := .gcOnly .lateStores }], guard := none }
def sn8O6 (ps : String) : Oper := { dst := some 40, op := .fieldAddr 23 (.tmp 4) 3, type := 0, pos := ps, after := #[{ on := 14, ground := .gcOnly .lateStores }], guard := none }
def sn8O7 (ps : String) : Oper := { dst := some 41, op := .load 3 (.tmp 40), type := 3, pos := ps, after := #[{ on := 6, ground := .data }, { on := 14, ground := .gcOnly .lateStores }], guard := none }
def sn8O8 (ps : String) : Oper := { dst := some 42, op := .binOp .gtr 3 (.tmp 41) (.const (.int .i64 0)) 3, type := 4, pos := ps, after := #[{ on := 7, ground := .data }, { on := 14, ground := .gcOnly .lateStores }], guard := none }
def sn8O9 (ps : String) : Oper := { dst := some 43, op := .fieldAddr 33 (.tmp 5) 8, type := 0, pos := ps, after := #[{ on := 0, ground := .phase }, { on := 1, ground := .phase }, { on := 2, ground := .textOnly .lateStores }, { on := 3, ground := .textOnly .lateStores }, { on := 4, ground := .textOnly .lateStores }, { on := 5, ground := .textOnly .lateStores }, { on := 6, ground := .textOnly .lateStores }, { on := 7, ground := .textOnly .lateStores }, { on := 8, ground := .textOnly .lateStores }], guard := none }
def sn8O10 (ps : String) : Oper := { dst := none, op := .store 3 (.tmp 43) (.tmp 35), type := 0, pos := ps, after := #[{ on := 9, ground := .data }, { on := 1, ground := .data }, { on := 0, ground := .phase }, { on := 1, ground := .phase }, { on := 2, ground := .textOnly .lateStores }, { on := 3, ground := .textOnly .lateStores }, { on := 4, ground := .textOnly .lateStores }, { on := 5, ground := .textOnly .lateStores }, { on := 6, ground := .textOnly .lateStores }, { on := 7, ground := .textOnly .lateStores }, { on := 8, ground := .textOnly .lateStores }], guard := none }
def sn8O11 (ps : String) : Oper := { dst := some 44, op := .fieldAddr 33 (.tmp 5) 9, type := 0, pos := ps, after := #[{ on := 0, ground := .phase }, { on := 1, ground := .phase }, { on := 2, ground := .phase }, { on := 3, ground := .phase }, { on := 4, ground := .textOnly .lateStores }, { on := 5, ground := .textOnly .lateStores }, { on := 6, ground := .textOnly .lateStores }, { on := 7, ground := .textOnly .lateStores }, { on := 8, ground := .textOnly .lateStores }, { on := 9, ground := .phase }, { on := 10, ground := .phase }], guard := none }
def sn8O12 (ps : String) : Oper := { dst := none, op := .store 3 (.tmp 44) (.tmp 37), type := 0, pos := ps, after := #[{ on := 11, ground := .data }, { on := 3, ground := .data }, { on := 10, ground := .chain }, { on := 0, ground := .phase }, { on := 1, ground := .phase }, { on := 2, ground := .phase }, { on := 3, ground := .phase }, { on := 4, ground := .textOnly .lateStores }, { on := 5, ground := .textOnly .lateStores }, { on := 6, ground := .textOnly .lateStores }, { on := 7, ground := .textOnly .lateStores }, { on := 8, ground := .textOnly .lateStores }, { on := 9, ground := .phase }, { on := 10, ground := .phase }], guard := none }
def sn8O13 (ps : String) : Oper := { dst := some 45, op := .fieldAddr 33 (.tmp 5) 10, type := 0, pos := ps, after := #[{ on := 0, ground := .phase }, { on := 1, ground := .phase }, { on := 2, ground := .phase }, { on := 3, ground := .phase }, { on := 4, ground := .phase }, { on := 5, ground := .phase }, { on := 6, ground := .textOnly .lateStores }, { on := 7, ground := .textOnly .lateStores }, { on := 8, ground := .textOnly .lateStores }, { on := 9, ground := .phase }, { on := 10, ground := .phase }, { on := 11, ground := .phase }, { on := 12, ground := .phase }], guard := none }
def sn8O14 (ps : String) : Oper := { dst := none, op := .store 3 (.tmp 45) (.tmp 39), type := 0, pos := ps, after := #[{ on := 13, ground := .data }, { on := 5, ground := .data }, { on := 12, ground := .chain }, { on := 0, ground := .phase }, { on := 1, ground := .phase }, { on := 2, ground := .phase }, { on := 3, ground := .phase }, { on := 4, ground := .phase }, { on := 5, ground := .phase }, { on := 6, ground := .textOnly .lateStores }, { on := 7, ground := .textOnly .lateStores }, { on := 8, ground := .textOnly .lateStores }, { on := 9, ground := .phase }, { on := 10, ground := .phase }, { on := 11, ground := .phase }, { on := 12, ground := .phase }], guard := none }
def sn8O15 (ps : String) : Oper := { dst := some 46, op := .fieldAddr 33 (.tmp 5) 11, type := 0, pos := ps, after := #[{ on := 0, ground := .phase }, { on := 1, ground := .phase }, { on := 2, ground := .phase }, { on := 3, ground := .phase }, { on := 4, ground := .phase }, { on := 5, ground := .phase }, { on := 6, ground := .phase }, { on := 7, ground := .phase }, { on := 8, ground := .phase }, { on := 9, ground := .phase }, { on := 10, ground := .phase }, { on := 11, ground := .phase }, { on := 12, ground := .phase }, { on := 13, ground := .phase }, { on := 14, ground := .phase }], guard := none }
def sn8O16 (ps : String) : Oper := { dst := none, op := .store 4 (.tmp 46) (.tmp 42), type := 0, pos := ps, after := #[{ on := 15, ground := .data }, { on := 8, ground := .data }, { on := 14, ground := .chain }, { on := 0, ground := .phase }, { on := 1, ground := .phase }, { on := 2, ground := .phase }, { on := 3, ground := .phase }, { on := 4, ground := .phase }, { on := 5, ground := .phase }, { on := 6, ground := .phase }, { on := 7, ground := .phase }, { on := 8, ground := .phase }, { on := 9, ground := .phase }, { on := 10, ground := .phase }, { on := 11, ground := .phase }, { on := 12, ground := .phase }, { on := 13, ground := .phase }, { on := 14, ground := .phase }], guard := none }
def sn8 (ps : String) : Array Oper := #[sn8O0 ps, sn8O1 ps, sn8O2 ps, sn8O3 ps, sn8O4 ps, sn8O5 ps, sn8O6 ps, sn8O7 ps, sn8O8 ps, sn8O9 ps, sn8O10 ps, sn8O11 ps, sn8O12 ps, sn8O13 ps, sn8O14 ps, sn8O15 ps, sn8O16 ps]
theorem sn8_0 (ps : String) : (sn8 ps)[0]? = some (sn8O0 ps) := rfl
theorem sn8_1 (ps : String) : (sn8 ps)[1]? = some (sn8O1 ps) := rfl
theorem sn8_2 (ps : String) : (sn8 ps)[2]? = some (sn8O2 ps) := rfl
theorem sn8_3 (ps : String) : (sn8 ps)[3]? = some (sn8O3 ps) := rfl
theorem sn8_4 (ps : String) : (sn8 ps)[4]? = some (sn8O4 ps) := rfl
theorem sn8_5 (ps : String) : (sn8 ps)[5]? = some (sn8O5 ps) := rfl
theorem sn8_6 (ps : String) : (sn8 ps)[6]? = some (sn8O6 ps) := rfl
theorem sn8_7 (ps : String) : (sn8 ps)[7]? = some (sn8O7 ps) := rfl
theorem sn8_8 (ps : String) : (sn8 ps)[8]? = some (sn8O8 ps) := rfl
theorem sn8_9 (ps : String) : (sn8 ps)[9]? = some (sn8O9 ps) := rfl
theorem sn8_10 (ps : String) : (sn8 ps)[10]? = some (sn8O10 ps) := rfl
theorem sn8_11 (ps : String) : (sn8 ps)[11]? = some (sn8O11 ps) := rfl
theorem sn8_12 (ps : String) : (sn8 ps)[12]? = some (sn8O12 ps) := rfl
theorem sn8_13 (ps : String) : (sn8 ps)[13]? = some (sn8O13 ps) := rfl
theorem sn8_14 (ps : String) : (sn8 ps)[14]? = some (sn8O14 ps) := rfl
theorem sn8_15 (ps : String) : (sn8 ps)[15]? = some (sn8O15 ps) := rfl
theorem sn8_16 (ps : String) : (sn8 ps)[16]? = some (sn8O16 ps) := rfl
def sn8D : Nat → Option Tmp
  | 0 => some 34
  | 1 => some 35
  | 2 => some 36
  | 3 => some 37
  | 4 => some 38
  | 5 => some 39
  | 6 => some 40
  | 7 => some 41
  | 8 => some 42
  | 9 => some 43
  | 10 => none
  | 11 => some 44
  | 12 => none
  | 13 => some 45
  | 14 => none
  | 15 => some 46
  | 16 => none
  | _ => none
def sn8T (q : Rt) (x : Rc) (p y r s B0 : Nat) (WW : World) : Nat → Value
  | 0 => .pointer (some ⟨p, 0, none⟩)
  | 1 => .int .i64 q.gv
  | 2 => .pointer (some ⟨p, 1, none⟩)
  | 3 => .int .i64 q.ga
  | 4 => .pointer (some ⟨p, 2, none⟩)
  | 5 => .int .i64 q.fa
  | 6 => .pointer (some ⟨p, 3, none⟩)
  | 7 => .int .i64 q.idt
  | 8 => .bool (decide (0 < q.idt))
  | 9 => .pointer (some ⟨y, 8, none⟩)
  | 10 => undef
  | 11 => .pointer (some ⟨y, 9, none⟩)
  | 12 => undef
  | 13 => .pointer (some ⟨y, 10, none⟩)
  | 14 => undef
  | 15 => .pointer (some ⟨y, 11, none⟩)
  | 16 => undef
  | _ => undef
set_option maxRecDepth 100000 in
set_option maxHeartbeats 4000000 in
theorem sn8_reg {ps : String} {Q : Exit → Act → World → Prop} {a0 : Act} {W0 : World} (sz : a0.tmps.size = 49) (q : Rt) (x : Rc) (p y r s B0 : Nat) (WW : World)
    (e4 : a0.eval (.tmp 4) = .pointer (some ⟨p, 0, none⟩)) (e5 : a0.eval (.tmp 5) = .pointer (some ⟨y, 0, none⟩))
    (l0 : B0 ≤ p) (l1 : p < y) (l2 : y < r) (l3 : r < s) (hS0 : Below B0 WW W0 ∧ Box W0 p 23 (rtL q) ∧ Box W0 y 33 (rcL ⟨x.f, x.t, x.fin, x.sent, x.tx, x.sk, x.lo, x.ag, (if false = true then q.gv else x.gv), (if false = true then q.ga else x.ga), (if false = true then q.fa else x.fa), (if false = true then decide (0 < q.idt) else x.idl)⟩) ∧ Box W0 r 23 (rtL rtZ) ∧ Box W0 s 33 (rcL rcZ) ∧ True)
    (hfin : ∀ (T : Nat → Value) w, Below B0 WW w ∧ Box w p 23 (rtL q) ∧ Box w y 33 (rcL ⟨x.f, x.t, x.fin, x.sent, x.tx, x.sk, x.lo, x.ag, q.gv, q.ga, q.fa, decide (0 < q.idt)⟩) ∧ Box w r 23 (rtL rtZ) ∧ Box w s 33 (rcL rcZ) ∧ True → Q .normal (((((((((((((a0.put (some 34) (T 0)).put (some 35) (T 1)).put (some 36) (T 2)).put (some 37) (T 3)).put (some 38) (T 4)).put (some 39) (T 5)).put (some 40) (T 6)).put (some 41) (T 7)).put (some 42) (T 8)).put (some 43) (T 9)).put (some 44) (T 11)).put (some 45) (T 13)).put (some 46) (T 15)) w) :
    (Code.region 8 (sn8 ps) true).wp Try.prog Q a0 W0 := by
  refine wp_region_dets (by kernel_rfl) 17 rfl sn8D ?_ (by decide) (sn8T q x p y r s B0 WW) (fun D w => Below B0 WW w ∧ Box w p 23 (rtL q) ∧ Box w y 33 (rcL ⟨x.f, x.t, x.fin, x.sent, x.tx, x.sk, x.lo, x.ag, (if D 10 = true then q.gv else x.gv), (if D 12 = true then q.ga else x.ga), (if D 14 = true then q.fa else x.fa), (if D 16 = true then decide (0 < q.idt) else x.idl)⟩) ∧ Box w r 23 (rtL rtZ) ∧ Box w s 33 (rcL rcZ) ∧ True) (fun D hD => by
    show Below B0 WW W0.drew ∧ Box W0.drew p 23 (rtL q) ∧ Box W0.drew y 33 (rcL ⟨x.f, x.t, x.fin, x.sent, x.tx, x.sk, x.lo, x.ag, (if D 10 = true then q.gv else x.gv), (if D 12 = true then q.ga else x.ga), (if D 14 = true then q.fa else x.fa), (if D 16 = true then decide (0 < q.idt) else x.idl)⟩) ∧ Box W0.drew r 23 (rtL rtZ) ∧ Box W0.drew s 33 (rcL rcZ) ∧ True
    rw [hD 10, hD 12, hD 14, hD 16]
    exact ⟨hS0.1.drew, hS0.2.1, hS0.2.2.1, hS0.2.2.2.1, hS0.2.2.2.2.1, trivial⟩) ?_ (by rfl) (fun w D hD hSw => by
    have hSw' : Below B0 WW w ∧ Box w p 23 (rtL q) ∧ Box w y 33 (rcL ⟨x.f, x.t, x.fin, x.sent, x.tx, x.sk, x.lo, x.ag, (if D 10 = true then q.gv else x.gv), (if D 12 = true then q.ga else x.ga), (if D 14 = true then q.fa else x.fa), (if D 16 = true then decide (0 < q.idt) else x.idl)⟩) ∧ Box w r 23 (rtL rtZ) ∧ Box w s 33 (rcL rcZ) ∧ True := hSw
    rw [hD 10 (by decide), hD 12 (by decide), hD 14 (by decide), hD 16 (by decide)] at hSw'
    exact hfin (sn8T q x p y r s B0 WW) w  hSw')
  · intro jq t hj ht
    have : ∀ j, j < 17 → (sn8D j).all (· < 49) = true := by decide
    have := this jq hj
    rw [ht] at this
    rw [sz]
    simpa using this
  · intro iq o ho D a w hSw hDi hcl hs hel K hK
    have hin : iq < 17 := (Array.getElem?_eq_some_iff.1 ho).1
    match iq, hin, ho with
    | 0, _, ho =>
      obtain rfl := Option.some.inj (ho.symm.trans (sn8_0 ps))
      have u4 : a.eval (.tmp 4) = .pointer (some ⟨p, 0, none⟩) := (hel 4 (by decide)).trans e4
      exact op_valW (sn8_0 ps) rfl (v := .pointer (some ⟨p, 0, none⟩)) (by unfold sn8O0 execOp; simp only [u4]; first | (go_simp; done) | (go_simp; with_reducible rfl)) (hK w (fun D' hi' hj' => by
        have hd10 : D' 10 = D 10 := hj' 10 (by decide)
        have hd12 : D' 12 = D 12 := hj' 12 (by decide)
        have hd14 : D' 14 = D 14 := hj' 14 (by decide)
        have hd16 : D' 16 = D 16 := hj' 16 (by decide)
        show Below B0 WW w ∧ Box w p 23 (rtL q) ∧ Box w y 33 (rcL ⟨x.f, x.t, x.fin, x.sent, x.tx, x.sk, x.lo, x.ag, (if D' 10 = true then q.gv else x.gv), (if D' 12 = true then q.ga else x.ga), (if D' 14 = true then q.fa else x.fa), (if D' 16 = true then decide (0 < q.idt) else x.idl)⟩) ∧ Box w r 23 (rtL rtZ) ∧ Box w s 33 (rcL rcZ) ∧ True
        rw [hd10, hd12, hd14, hd16]
        exact hSw))
    | 1, _, ho =>
      obtain rfl := Option.some.inj (ho.symm.trans (sn8_1 ps))
      have s0 : a.eval (.tmp 34) = .pointer (some ⟨p, 0, none⟩) := hs 0 34 (by rfl) rfl
      have hcl : w.cell? ⟨p, 0, none⟩ = some (.int .i64 q.gv) := Box.cell hSw.2.1 0 rfl
      exact op_valW (sn8_1 ps) rfl (v := .int .i64 q.gv) (by unfold sn8O1 execOp; simp only [s0]; first | (go_simp; done) | (go_simp; with_reducible rfl)) (hK w (fun D' hi' hj' => by
        have hd10 : D' 10 = D 10 := hj' 10 (by decide)
        have hd12 : D' 12 = D 12 := hj' 12 (by decide)
        have hd14 : D' 14 = D 14 := hj' 14 (by decide)
        have hd16 : D' 16 = D 16 := hj' 16 (by decide)
        show Below B0 WW w ∧ Box w p 23 (rtL q) ∧ Box w y 33 (rcL ⟨x.f, x.t, x.fin, x.sent, x.tx, x.sk, x.lo, x.ag, (if D' 10 = true then q.gv else x.gv), (if D' 12 = true then q.ga else x.ga), (if D' 14 = true then q.fa else x.fa), (if D' 16 = true then decide (0 < q.idt) else x.idl)⟩) ∧ Box w r 23 (rtL rtZ) ∧ Box w s 33 (rcL rcZ) ∧ True
        rw [hd10, hd12, hd14, hd16]
        exact hSw))
    | 2, _, ho =>
      obtain rfl := Option.some.inj (ho.symm.trans (sn8_2 ps))
      have u4 : a.eval (.tmp 4) = .pointer (some ⟨p, 0, none⟩) := (hel 4 (by decide)).trans e4
      exact op_valW (sn8_2 ps) rfl (v := .pointer (some ⟨p, 1, none⟩)) (by unfold sn8O2 execOp; simp only [u4]; first | (go_simp; done) | (go_simp; with_reducible rfl)) (hK w (fun D' hi' hj' => by
        have hd10 : D' 10 = D 10 := hj' 10 (by decide)
        have hd12 : D' 12 = D 12 := hj' 12 (by decide)
        have hd14 : D' 14 = D 14 := hj' 14 (by decide)
        have hd16 : D' 16 = D 16 := hj' 16 (by decide)
        show Below B0 WW w ∧ Box w p 23 (rtL q) ∧ Box w y 33 (rcL ⟨x.f, x.t, x.fin, x.sent, x.tx, x.sk, x.lo, x.ag, (if D' 10 = true then q.gv else x.gv), (if D' 12 = true then q.ga else x.ga), (if D' 14 = true then q.fa else x.fa), (if D' 16 = true then decide (0 < q.idt) else x.idl)⟩) ∧ Box w r 23 (rtL rtZ) ∧ Box w s 33 (rcL rcZ) ∧ True
        rw [hd10, hd12, hd14, hd16]
        exact hSw))
    | 3, _, ho =>
      obtain rfl := Option.some.inj (ho.symm.trans (sn8_3 ps))
      have s2 : a.eval (.tmp 36) = .pointer (some ⟨p, 1, none⟩) := hs 2 36 (by rfl) rfl
      have hcl : w.cell? ⟨p, 1, none⟩ = some (.int .i64 q.ga) := Box.cell hSw.2.1 1 rfl
      exact op_valW (sn8_3 ps) rfl (v := .int .i64 q.ga) (by unfold sn8O3 execOp; simp only [s2]; first | (go_simp; done) | (go_simp; with_reducible rfl)) (hK w (fun D' hi' hj' => by
        have hd10 : D' 10 = D 10 := hj' 10 (by decide)
        have hd12 : D' 12 = D 12 := hj' 12 (by decide)
        have hd14 : D' 14 = D 14 := hj' 14 (by decide)
        have hd16 : D' 16 = D 16 := hj' 16 (by decide)
        show Below B0 WW w ∧ Box w p 23 (rtL q) ∧ Box w y 33 (rcL ⟨x.f, x.t, x.fin, x.sent, x.tx, x.sk, x.lo, x.ag, (if D' 10 = true then q.gv else x.gv), (if D' 12 = true then q.ga else x.ga), (if D' 14 = true then q.fa else x.fa), (if D' 16 = true then decide (0 < q.idt) else x.idl)⟩) ∧ Box w r 23 (rtL rtZ) ∧ Box w s 33 (rcL rcZ) ∧ True
        rw [hd10, hd12, hd14, hd16]
        exact hSw))
    | 4, _, ho =>
      obtain rfl := Option.some.inj (ho.symm.trans (sn8_4 ps))
      have u4 : a.eval (.tmp 4) = .pointer (some ⟨p, 0, none⟩) := (hel 4 (by decide)).trans e4
      exact op_valW (sn8_4 ps) rfl (v := .pointer (some ⟨p, 2, none⟩)) (by unfold sn8O4 execOp; simp only [u4]; first | (go_simp; done) | (go_simp; with_reducible rfl)) (hK w (fun D' hi' hj' => by
        have hd10 : D' 10 = D 10 := hj' 10 (by decide)
        have hd12 : D' 12 = D 12 := hj' 12 (by decide)
        have hd14 : D' 14 = D 14 := hj' 14 (by decide)
        have hd16 : D' 16 = D 16 := hj' 16 (by decide)
        show Below B0 WW w ∧ Box w p 23 (rtL q) ∧ Box w y 33 (rcL ⟨x.f, x.t, x.fin, x.sent, x.tx, x.sk, x.lo, x.ag, (if D' 10 = true then q.gv else x.gv), (if D' 12 = true then q.ga else x.ga), (if D' 14 = true then q.fa else x.fa), (if D' 16 = true then decide (0 < q.idt) else x.idl)⟩) ∧ Box w r 23 (rtL rtZ) ∧ Box w s 33 (rcL rcZ) ∧ True
        rw [hd10, hd12, hd14, hd16]
        exact hSw))
    | 5, _, ho =>
      obtain rfl := Option.some.inj (ho.symm.trans (sn8_5 ps))
      have s4 : a.eval (.tmp 38) = .pointer (some ⟨p, 2, none⟩) := hs 4 38 (by rfl) rfl
      have hcl : w.cell? ⟨p, 2, none⟩ = some (.int .i64 q.fa) := Box.cell hSw.2.1 2 rfl
      exact op_valW (sn8_5 ps) rfl (v := .int .i64 q.fa) (by unfold sn8O5 execOp; simp only [s4]; first | (go_simp; done) | (go_simp; with_reducible rfl)) (hK w (fun D' hi' hj' => by
        have hd10 : D' 10 = D 10 := hj' 10 (by decide)
        have hd12 : D' 12 = D 12 := hj' 12 (by decide)
        have hd14 : D' 14 = D 14 := hj' 14 (by decide)
        have hd16 : D' 16 = D 16 := hj' 16 (by decide)
        show Below B0 WW w ∧ Box w p 23 (rtL q) ∧ Box w y 33 (rcL ⟨x.f, x.t, x.fin, x.sent, x.tx, x.sk, x.lo, x.ag, (if D' 10 = true then q.gv else x.gv), (if D' 12 = true then q.ga else x.ga), (if D' 14 = true then q.fa else x.fa), (if D' 16 = true then decide (0 < q.idt) else x.idl)⟩) ∧ Box w r 23 (rtL rtZ) ∧ Box w s 33 (rcL rcZ) ∧ True
        rw [hd10, hd12, hd14, hd16]
        exact hSw))
    | 6, _, ho =>
      obtain rfl := Option.some.inj (ho.symm.trans (sn8_6 ps))
      have u4 : a.eval (.tmp 4) = .pointer (some ⟨p, 0, none⟩) := (hel 4 (by decide)).trans e4
      exact op_valW (sn8_6 ps) rfl (v := .pointer (some ⟨p, 3, none⟩)) (by unfold sn8O6 execOp; simp only [u4]; first | (go_simp; done) | (go_simp; with_reducible rfl)) (hK w (fun D' hi' hj' => by
        have hd10 : D' 10 = D 10 := hj' 10 (by decide)
        have hd12 : D' 12 = D 12 := hj' 12 (by decide)
        have hd14 : D' 14 = D 14 := hj' 14 (by decide)
        have hd16 : D' 16 = D 16 := hj' 16 (by decide)
        show Below B0 WW w ∧ Box w p 23 (rtL q) ∧ Box w y 33 (rcL ⟨x.f, x.t, x.fin, x.sent, x.tx, x.sk, x.lo, x.ag, (if D' 10 = true then q.gv else x.gv), (if D' 12 = true then q.ga else x.ga), (if D' 14 = true then q.fa else x.fa), (if D' 16 = true then decide (0 < q.idt) else x.idl)⟩) ∧ Box w r 23 (rtL rtZ) ∧ Box w s 33 (rcL rcZ) ∧ True
        rw [hd10, hd12, hd14, hd16]
        exact hSw))
    | 7, _, ho =>
      obtain rfl := Option.some.inj (ho.symm.trans (sn8_7 ps))
      have s6 : a.eval (.tmp 40) = .pointer (some ⟨p, 3, none⟩) := hs 6 40 (by rfl) rfl
      have hcl : w.cell? ⟨p, 3, none⟩ = some (.int .i64 q.idt) := Box.cell hSw.2.1 3 rfl
      exact op_valW (sn8_7 ps) rfl (v := .int .i64 q.idt) (by unfold sn8O7 execOp; simp only [s6]; first | (go_simp; done) | (go_simp; with_reducible rfl)) (hK w (fun D' hi' hj' => by
        have hd10 : D' 10 = D 10 := hj' 10 (by decide)
        have hd12 : D' 12 = D 12 := hj' 12 (by decide)
        have hd14 : D' 14 = D 14 := hj' 14 (by decide)
        have hd16 : D' 16 = D 16 := hj' 16 (by decide)
        show Below B0 WW w ∧ Box w p 23 (rtL q) ∧ Box w y 33 (rcL ⟨x.f, x.t, x.fin, x.sent, x.tx, x.sk, x.lo, x.ag, (if D' 10 = true then q.gv else x.gv), (if D' 12 = true then q.ga else x.ga), (if D' 14 = true then q.fa else x.fa), (if D' 16 = true then decide (0 < q.idt) else x.idl)⟩) ∧ Box w r 23 (rtL rtZ) ∧ Box w s 33 (rcL rcZ) ∧ True
        rw [hd10, hd12, hd14, hd16]
        exact hSw))
    | 8, _, ho =>
      obtain rfl := Option.some.inj (ho.symm.trans (sn8_8 ps))
      have s7 : a.eval (.tmp 41) = .int .i64 q.idt := hs 7 41 (by rfl) rfl
      exact op_valW (sn8_8 ps) rfl (v := .bool (decide (0 < q.idt))) (by unfold sn8O8 execOp; simp only [s7]; first | (go_simp; done) | (go_simp; with_reducible rfl)) (hK w (fun D' hi' hj' => by
        have hd10 : D' 10 = D 10 := hj' 10 (by decide)
        have hd12 : D' 12 = D 12 := hj' 12 (by decide)
        have hd14 : D' 14 = D 14 := hj' 14 (by decide)
        have hd16 : D' 16 = D 16 := hj' 16 (by decide)
        show Below B0 WW w ∧ Box w p 23 (rtL q) ∧ Box w y 33 (rcL ⟨x.f, x.t, x.fin, x.sent, x.tx, x.sk, x.lo, x.ag, (if D' 10 = true then q.gv else x.gv), (if D' 12 = true then q.ga else x.ga), (if D' 14 = true then q.fa else x.fa), (if D' 16 = true then decide (0 < q.idt) else x.idl)⟩) ∧ Box w r 23 (rtL rtZ) ∧ Box w s 33 (rcL rcZ) ∧ True
        rw [hd10, hd12, hd14, hd16]
        exact hSw))
    | 9, _, ho =>
      obtain rfl := Option.some.inj (ho.symm.trans (sn8_9 ps))
      have u5 : a.eval (.tmp 5) = .pointer (some ⟨y, 0, none⟩) := (hel 5 (by decide)).trans e5
      exact op_valW (sn8_9 ps) rfl (v := .pointer (some ⟨y, 8, none⟩)) (by unfold sn8O9 execOp; simp only [u5]; first | (go_simp; done) | (go_simp; with_reducible rfl)) (hK w (fun D' hi' hj' => by
        have hd10 : D' 10 = D 10 := hj' 10 (by decide)
        have hd12 : D' 12 = D 12 := hj' 12 (by decide)
        have hd14 : D' 14 = D 14 := hj' 14 (by decide)
        have hd16 : D' 16 = D 16 := hj' 16 (by decide)
        show Below B0 WW w ∧ Box w p 23 (rtL q) ∧ Box w y 33 (rcL ⟨x.f, x.t, x.fin, x.sent, x.tx, x.sk, x.lo, x.ag, (if D' 10 = true then q.gv else x.gv), (if D' 12 = true then q.ga else x.ga), (if D' 14 = true then q.fa else x.fa), (if D' 16 = true then decide (0 < q.idt) else x.idl)⟩) ∧ Box w r 23 (rtL rtZ) ∧ Box w s 33 (rcL rcZ) ∧ True
        rw [hd10, hd12, hd14, hd16]
        exact hSw))
    | 10, _, ho =>
      obtain rfl := Option.some.inj (ho.symm.trans (sn8_10 ps))
      have s9 : a.eval (.tmp 43) = .pointer (some ⟨y, 8, none⟩) := hs 9 43 (by rfl) rfl
      have s1 : a.eval (.tmp 35) = .int .i64 q.gv := hs 1 35 (by rfl) rfl
      have hfz := Box.frozen hSw.2.2.1 8
      have hcx := Box.cell hSw.2.2.1 8 rfl
      exact op_stoW (sn8_10 ps) rfl rfl (w' := (w.setCell ⟨y, 8, none⟩ (.int .i64 q.gv))) (by unfold sn8O10 execOp; simp only [s9, s1]; first | (go_simp; done) | (go_simp; with_reducible rfl)) (hK _ (fun D' hi' hj' => by
        have hd10 : D' 10 = true := hi'
        have hd12 : D' 12 = D 12 := hj' 12 (by decide)
        have hd14 : D' 14 = D 14 := hj' 14 (by decide)
        have hd16 : D' 16 = D 16 := hj' 16 (by decide)
        show Below B0 WW (w.setCell ⟨y, 8, none⟩ (.int .i64 q.gv)) ∧ Box (w.setCell ⟨y, 8, none⟩ (.int .i64 q.gv)) p 23 (rtL q) ∧ Box (w.setCell ⟨y, 8, none⟩ (.int .i64 q.gv)) y 33 (rcL ⟨x.f, x.t, x.fin, x.sent, x.tx, x.sk, x.lo, x.ag, (if D' 10 = true then q.gv else x.gv), (if D' 12 = true then q.ga else x.ga), (if D' 14 = true then q.fa else x.fa), (if D' 16 = true then decide (0 < q.idt) else x.idl)⟩) ∧ Box (w.setCell ⟨y, 8, none⟩ (.int .i64 q.gv)) r 23 (rtL rtZ) ∧ Box (w.setCell ⟨y, 8, none⟩ (.int .i64 q.gv)) s 33 (rcL rcZ) ∧ True
        rw [hd10, hd12, hd14, hd16]
        exact ⟨((Sto.refl w y).set 8 (.int .i64 q.gv)).below _ _ (by omega) hSw.1, hSw.2.1.sto ((Sto.refl w y).set 8 (.int .i64 q.gv)) (by omega), hSw.2.2.1.set 8 (.int .i64 q.gv), hSw.2.2.2.1.sto ((Sto.refl w y).set 8 (.int .i64 q.gv)) (by omega), hSw.2.2.2.2.1.sto ((Sto.refl w y).set 8 (.int .i64 q.gv)) (by omega), trivial⟩))
    | 11, _, ho =>
      obtain rfl := Option.some.inj (ho.symm.trans (sn8_11 ps))
      have u5 : a.eval (.tmp 5) = .pointer (some ⟨y, 0, none⟩) := (hel 5 (by decide)).trans e5
      exact op_valW (sn8_11 ps) rfl (v := .pointer (some ⟨y, 9, none⟩)) (by unfold sn8O11 execOp; simp only [u5]; first | (go_simp; done) | (go_simp; with_reducible rfl)) (hK w (fun D' hi' hj' => by
        have hd10 : D' 10 = D 10 := hj' 10 (by decide)
        have hd12 : D' 12 = D 12 := hj' 12 (by decide)
        have hd14 : D' 14 = D 14 := hj' 14 (by decide)
        have hd16 : D' 16 = D 16 := hj' 16 (by decide)
        show Below B0 WW w ∧ Box w p 23 (rtL q) ∧ Box w y 33 (rcL ⟨x.f, x.t, x.fin, x.sent, x.tx, x.sk, x.lo, x.ag, (if D' 10 = true then q.gv else x.gv), (if D' 12 = true then q.ga else x.ga), (if D' 14 = true then q.fa else x.fa), (if D' 16 = true then decide (0 < q.idt) else x.idl)⟩) ∧ Box w r 23 (rtL rtZ) ∧ Box w s 33 (rcL rcZ) ∧ True
        rw [hd10, hd12, hd14, hd16]
        exact hSw))
    | 12, _, ho =>
      obtain rfl := Option.some.inj (ho.symm.trans (sn8_12 ps))
      have s11 : a.eval (.tmp 44) = .pointer (some ⟨y, 9, none⟩) := hs 11 44 (by rfl) rfl
      have s3 : a.eval (.tmp 37) = .int .i64 q.ga := hs 3 37 (by rfl) rfl
      have hfz := Box.frozen hSw.2.2.1 9
      have hcx := Box.cell hSw.2.2.1 9 rfl
      exact op_stoW (sn8_12 ps) rfl rfl (w' := (w.setCell ⟨y, 9, none⟩ (.int .i64 q.ga))) (by unfold sn8O12 execOp; simp only [s11, s3]; first | (go_simp; done) | (go_simp; with_reducible rfl)) (hK _ (fun D' hi' hj' => by
        have hd10 : D' 10 = D 10 := hj' 10 (by decide)
        have hd12 : D' 12 = true := hi'
        have hd14 : D' 14 = D 14 := hj' 14 (by decide)
        have hd16 : D' 16 = D 16 := hj' 16 (by decide)
        show Below B0 WW (w.setCell ⟨y, 9, none⟩ (.int .i64 q.ga)) ∧ Box (w.setCell ⟨y, 9, none⟩ (.int .i64 q.ga)) p 23 (rtL q) ∧ Box (w.setCell ⟨y, 9, none⟩ (.int .i64 q.ga)) y 33 (rcL ⟨x.f, x.t, x.fin, x.sent, x.tx, x.sk, x.lo, x.ag, (if D' 10 = true then q.gv else x.gv), (if D' 12 = true then q.ga else x.ga), (if D' 14 = true then q.fa else x.fa), (if D' 16 = true then decide (0 < q.idt) else x.idl)⟩) ∧ Box (w.setCell ⟨y, 9, none⟩ (.int .i64 q.ga)) r 23 (rtL rtZ) ∧ Box (w.setCell ⟨y, 9, none⟩ (.int .i64 q.ga)) s 33 (rcL rcZ) ∧ True
        rw [hd10, hd12, hd14, hd16]
        exact ⟨((Sto.refl w y).set 9 (.int .i64 q.ga)).below _ _ (by omega) hSw.1, hSw.2.1.sto ((Sto.refl w y).set 9 (.int .i64 q.ga)) (by omega), hSw.2.2.1.set 9 (.int .i64 q.ga), hSw.2.2.2.1.sto ((Sto.refl w y).set 9 (.int .i64 q.ga)) (by omega), hSw.2.2.2.2.1.sto ((Sto.refl w y).set 9 (.int .i64 q.ga)) (by omega), trivial⟩))
    | 13, _, ho =>
      obtain rfl := Option.some.inj (ho.symm.trans (sn8_13 ps))
      have u5 : a.eval (.tmp 5) = .pointer (some ⟨y, 0, none⟩) := (hel 5 (by decide)).trans e5
      exact op_valW (sn8_13 ps) rfl (v := .pointer (some ⟨y, 10, none⟩)) (by unfold sn8O13 execOp; simp only [u5]; first | (go_simp; done) | (go_simp; with_reducible rfl)) (hK w (fun D' hi' hj' => by
        have hd10 : D' 10 = D 10 := hj' 10 (by decide)
        have hd12 : D' 12 = D 12 := hj' 12 (by decide)
        have hd14 : D' 14 = D 14 := hj' 14 (by decide)
        have hd16 : D' 16 = D 16 := hj' 16 (by decide)
        show Below B0 WW w ∧ Box w p 23 (rtL q) ∧ Box w y 33 (rcL ⟨x.f, x.t, x.fin, x.sent, x.tx, x.sk, x.lo, x.ag, (if D' 10 = true then q.gv else x.gv), (if D' 12 = true then q.ga else x.ga), (if D' 14 = true then q.fa else x.fa), (if D' 16 = true then decide (0 < q.idt) else x.idl)⟩) ∧ Box w r 23 (rtL rtZ) ∧ Box w s 33 (rcL rcZ) ∧ True
        rw [hd10, hd12, hd14, hd16]
        exact hSw))
    | 14, _, ho =>
      obtain rfl := Option.some.inj (ho.symm.trans (sn8_14 ps))
      have s13 : a.eval (.tmp 45) = .pointer (some ⟨y, 10, none⟩) := hs 13 45 (by rfl) rfl
      have s5 : a.eval (.tmp 39) = .int .i64 q.fa := hs 5 39 (by rfl) rfl
      have hfz := Box.frozen hSw.2.2.1 10
      have hcx := Box.cell hSw.2.2.1 10 rfl
      exact op_stoW (sn8_14 ps) rfl rfl (w' := (w.setCell ⟨y, 10, none⟩ (.int .i64 q.fa))) (by unfold sn8O14 execOp; simp only [s13, s5]; first | (go_simp; done) | (go_simp; with_reducible rfl)) (hK _ (fun D' hi' hj' => by
        have hd10 : D' 10 = D 10 := hj' 10 (by decide)
        have hd12 : D' 12 = D 12 := hj' 12 (by decide)
        have hd14 : D' 14 = true := hi'
        have hd16 : D' 16 = D 16 := hj' 16 (by decide)
        show Below B0 WW (w.setCell ⟨y, 10, none⟩ (.int .i64 q.fa)) ∧ Box (w.setCell ⟨y, 10, none⟩ (.int .i64 q.fa)) p 23 (rtL q) ∧ Box (w.setCell ⟨y, 10, none⟩ (.int .i64 q.fa)) y 33 (rcL ⟨x.f, x.t, x.fin, x.sent, x.tx, x.sk, x.lo, x.ag, (if D' 10 = true then q.gv else x.gv), (if D' 12 = true then q.ga else x.ga), (if D' 14 = true then q.fa else x.fa), (if D' 16 = true then decide (0 < q.idt) else x.idl)⟩) ∧ Box (w.setCell ⟨y, 10, none⟩ (.int .i64 q.fa)) r 23 (rtL rtZ) ∧ Box (w.setCell ⟨y, 10, none⟩ (.int .i64 q.fa)) s 33 (rcL rcZ) ∧ True
        rw [hd10, hd12, hd14, hd16]
        exact ⟨((Sto.refl w y).set 10 (.int .i64 q.fa)).below _ _ (by omega) hSw.1, hSw.2.1.sto ((Sto.refl w y).set 10 (.int .i64 q.fa)) (by omega), hSw.2.2.1.set 10 (.int .i64 q.fa), hSw.2.2.2.1.sto ((Sto.refl w y).set 10 (.int .i64 q.fa)) (by omega), hSw.2.2.2.2.1.sto ((Sto.refl w y).set 10 (.int .i64 q.fa)) (by omega), trivial⟩))
    | 15, _, ho =>
      obtain rfl := Option.some.inj (ho.symm.trans (sn8_15 ps))
      have u5 : a.eval (.tmp 5) = .pointer (some ⟨y, 0, none⟩) := (hel 5 (by decide)).trans e5
      exact op_valW (sn8_15 ps) rfl (v := .pointer (some ⟨y, 11, none⟩)) (by unfold sn8O15 execOp; simp only [u5]; first | (go_simp; done) | (go_simp; with_reducible rfl)) (hK w (fun D' hi' hj' => by
        have hd10 : D' 10 = D 10 := hj' 10 (by decide)
        have hd12 : D' 12 = D 12 := hj' 12 (by decide)
        have hd14 : D' 14 = D 14 := hj' 14 (by decide)
        have hd16 : D' 16 = D 16 := hj' 16 (by decide)
        show Below B0 WW w ∧ Box w p 23 (rtL q) ∧ Box w y 33 (rcL ⟨x.f, x.t, x.fin, x.sent, x.tx, x.sk, x.lo, x.ag, (if D' 10 = true then q.gv else x.gv), (if D' 12 = true then q.ga else x.ga), (if D' 14 = true then q.fa else x.fa), (if D' 16 = true then decide (0 < q.idt) else x.idl)⟩) ∧ Box w r 23 (rtL rtZ) ∧ Box w s 33 (rcL rcZ) ∧ True
        rw [hd10, hd12, hd14, hd16]
        exact hSw))
    | 16, _, ho =>
      obtain rfl := Option.some.inj (ho.symm.trans (sn8_16 ps))
      have s15 : a.eval (.tmp 46) = .pointer (some ⟨y, 11, none⟩) := hs 15 46 (by rfl) rfl
      have s8 : a.eval (.tmp 42) = .bool (decide (0 < q.idt)) := hs 8 42 (by rfl) rfl
      have hfz := Box.frozen hSw.2.2.1 11
      have hcx := Box.cell hSw.2.2.1 11 rfl
      exact op_stoW (sn8_16 ps) rfl rfl (w' := (w.setCell ⟨y, 11, none⟩ (.bool (decide (0 < q.idt))))) (by unfold sn8O16 execOp; simp only [s15, s8]; first | (go_simp; done) | (go_simp; with_reducible rfl)) (hK _ (fun D' hi' hj' => by
        have hd10 : D' 10 = D 10 := hj' 10 (by decide)
        have hd12 : D' 12 = D 12 := hj' 12 (by decide)
        have hd14 : D' 14 = D 14 := hj' 14 (by decide)
        have hd16 : D' 16 = true := hi'
        show Below B0 WW (w.setCell ⟨y, 11, none⟩ (.bool (decide (0 < q.idt)))) ∧ Box (w.setCell ⟨y, 11, none⟩ (.bool (decide (0 < q.idt)))) p 23 (rtL q) ∧ Box (w.setCell ⟨y, 11, none⟩ (.bool (decide (0 < q.idt)))) y 33 (rcL ⟨x.f, x.t, x.fin, x.sent, x.tx, x.sk, x.lo, x.ag, (if D' 10 = true then q.gv else x.gv), (if D' 12 = true then q.ga else x.ga), (if D' 14 = true then q.fa else x.fa), (if D' 16 = true then decide (0 < q.idt) else x.idl)⟩) ∧ Box (w.setCell ⟨y, 11, none⟩ (.bool (decide (0 < q.idt)))) r 23 (rtL rtZ) ∧ Box (w.setCell ⟨y, 11, none⟩ (.bool (decide (0 < q.idt)))) s 33 (rcL rcZ) ∧ True
        rw [hd10, hd12, hd14, hd16]
        exact ⟨((Sto.refl w y).set 11 (.bool (decide (0 < q.idt)))).below _ _ (by omega) hSw.1, hSw.2.1.sto ((Sto.refl w y).set 11 (.bool (decide (0 < q.idt)))) (by omega), hSw.2.2.1.set 11 (.bool (decide (0 < q.idt))), hSw.2.2.2.1.sto ((Sto.refl w y).set 11 (.bool (decide (0 < q.idt)))) (by omega), hSw.2.2.2.2.1.sto ((Sto.refl w y).set 11 (.bool (decide (0 < q.idt)))) (by omega), trivial⟩))
    | iq + 17, hin, _ => exact absurd hin (by omega)
def sn9O0 (ps : String) : Oper := { dst := some 47, op := .load 23 (.tmp 4), type := 23, pos := ps, after := #[], guard := none }
def sn9O1 (ps : String) : Oper := { dst := some 48, op := .load 33 (.tmp 5), type := 33, pos := ps, after := #[{ on := 2, ground := .gcOnly .lateStores }], guard := none }
def sn9O2 (ps : String) : Oper := { dst := none, op := .store 23 (.tmp 8) (.tmp 47), type := 0, pos := ps, after := #[{ on := 0, ground := .data }, { on := 0, ground := .phase }, { on := 1, ground := .textOnly .lateStores }], guard := none }
def sn9O3 (ps : String) : Oper := { dst := none, op := .store 33 (.tmp 9) (.tmp 48), type := 0, pos := ps, after := #[{ on := 1, ground := .data }, { on := 2, ground := .chain }, { on := 0, ground := .phase }, { on := 1, ground := .phase }, { on := 2, ground := .phase }], guard := none }
def sn9O4 (ps : String) : Oper := { dst := some 10, op := .assign (.const (.int .i64 0)), type := 27, pos := ps, after := #[{ on := 3, ground := .chain }, { on := 0, ground := .phase }, { on := 1, ground := .phase }, { on := 2, ground := .phase }, { on := 3, ground := .phase }], guard := none }
def sn9 (ps : String) : Array Oper := #[sn9O0 ps, sn9O1 ps, sn9O2 ps, sn9O3 ps, sn9O4 ps]
theorem sn9_0 (ps : String) : (sn9 ps)[0]? = some (sn9O0 ps) := rfl
theorem sn9_1 (ps : String) : (sn9 ps)[1]? = some (sn9O1 ps) := rfl
theorem sn9_2 (ps : String) : (sn9 ps)[2]? = some (sn9O2 ps) := rfl
theorem sn9_3 (ps : String) : (sn9 ps)[3]? = some (sn9O3 ps) := rfl
theorem sn9_4 (ps : String) : (sn9 ps)[4]? = some (sn9O4 ps) := rfl
def sn9D : Nat → Option Tmp
  | 0 => some 47
  | 1 => some 48
  | 2 => none
  | 3 => none
  | 4 => some 10
  | _ => none
def sn9T (q : Rt) (x : Rc) (p y r s B0 : Nat) (WW : World) : Nat → Value
  | 0 => agv (rtL q)
  | 1 => agv (rcL x)
  | 2 => undef
  | 3 => undef
  | 4 => .int .i64 0
  | _ => undef
set_option maxRecDepth 100000 in
set_option maxHeartbeats 4000000 in
theorem sn9_reg {ps : String} {Q : Exit → Act → World → Prop} {a0 : Act} {W0 : World} (sz : a0.tmps.size = 49) (q : Rt) (x : Rc) (p y r s B0 : Nat) (WW : World)
    (e4 : a0.eval (.tmp 4) = .pointer (some ⟨p, 0, none⟩)) (e5 : a0.eval (.tmp 5) = .pointer (some ⟨y, 0, none⟩)) (e8 : a0.eval (.tmp 8) = .pointer (some ⟨r, 0, none⟩)) (e9 : a0.eval (.tmp 9) = .pointer (some ⟨s, 0, none⟩))
    (l0 : B0 ≤ p) (l1 : p < y) (l2 : y < r) (l3 : r < s) (hS0 : Below B0 WW W0 ∧ Box W0 p 23 (rtL q) ∧ Box W0 y 33 (rcL x) ∧ Box W0 r 23 (rtL (if false = true then q else rtZ)) ∧ Box W0 s 33 (rcL (if false = true then x else rcZ)) ∧ True)
    (hfin : ∀ (T : Nat → Value) w, T 4 = .int .i64 0 → Below B0 WW w ∧ Box w p 23 (rtL q) ∧ Box w y 33 (rcL x) ∧ Box w r 23 (rtL q) ∧ Box w s 33 (rcL x) ∧ True → Q .normal (((a0.put (some 47) (T 0)).put (some 48) (T 1)).put (some 10) (T 4)) w) :
    (Code.region 9 (sn9 ps) true).wp Try.prog Q a0 W0 := by
  refine wp_region_dets (by kernel_rfl) 5 rfl sn9D ?_ (by decide) (sn9T q x p y r s B0 WW) (fun D w => Below B0 WW w ∧ Box w p 23 (rtL q) ∧ Box w y 33 (rcL x) ∧ Box w r 23 (rtL (if D 2 = true then q else rtZ)) ∧ Box w s 33 (rcL (if D 3 = true then x else rcZ)) ∧ True) (fun D hD => by
    show Below B0 WW W0.drew ∧ Box W0.drew p 23 (rtL q) ∧ Box W0.drew y 33 (rcL x) ∧ Box W0.drew r 23 (rtL (if D 2 = true then q else rtZ)) ∧ Box W0.drew s 33 (rcL (if D 3 = true then x else rcZ)) ∧ True
    rw [hD 2, hD 3]
    exact ⟨hS0.1.drew, hS0.2.1, hS0.2.2.1, hS0.2.2.2.1, hS0.2.2.2.2.1, trivial⟩) ?_ (by rfl) (fun w D hD hSw => by
    have hSw' : Below B0 WW w ∧ Box w p 23 (rtL q) ∧ Box w y 33 (rcL x) ∧ Box w r 23 (rtL (if D 2 = true then q else rtZ)) ∧ Box w s 33 (rcL (if D 3 = true then x else rcZ)) ∧ True := hSw
    rw [hD 2 (by decide), hD 3 (by decide)] at hSw'
    exact hfin (sn9T q x p y r s B0 WW) w rfl hSw')
  · intro jq t hj ht
    have : ∀ j, j < 5 → (sn9D j).all (· < 49) = true := by decide
    have := this jq hj
    rw [ht] at this
    rw [sz]
    simpa using this
  · intro iq o ho D a w hSw hDi hcl hs hel K hK
    have hin : iq < 5 := (Array.getElem?_eq_some_iff.1 ho).1
    match iq, hin, ho with
    | 0, _, ho =>
      obtain rfl := Option.some.inj (ho.symm.trans (sn9_0 ps))
      have u4 : a.eval (.tmp 4) = .pointer (some ⟨p, 0, none⟩) := (hel 4 (by decide)).trans e4
      exact op_valW (sn9_0 ps) rfl (v := agv (rtL q)) (run_loadS isS23 rfl u4 hSw.2.1) (hK w (fun D' hi' hj' => by
        have hd2 : D' 2 = D 2 := hj' 2 (by decide)
        have hd3 : D' 3 = D 3 := hj' 3 (by decide)
        show Below B0 WW w ∧ Box w p 23 (rtL q) ∧ Box w y 33 (rcL x) ∧ Box w r 23 (rtL (if D' 2 = true then q else rtZ)) ∧ Box w s 33 (rcL (if D' 3 = true then x else rcZ)) ∧ True
        rw [hd2, hd3]
        exact hSw))
    | 1, _, ho =>
      obtain rfl := Option.some.inj (ho.symm.trans (sn9_1 ps))
      have u5 : a.eval (.tmp 5) = .pointer (some ⟨y, 0, none⟩) := (hel 5 (by decide)).trans e5
      exact op_valW (sn9_1 ps) rfl (v := agv (rcL x)) (run_loadS isS33 rfl u5 hSw.2.2.1) (hK w (fun D' hi' hj' => by
        have hd2 : D' 2 = D 2 := hj' 2 (by decide)
        have hd3 : D' 3 = D 3 := hj' 3 (by decide)
        show Below B0 WW w ∧ Box w p 23 (rtL q) ∧ Box w y 33 (rcL x) ∧ Box w r 23 (rtL (if D' 2 = true then q else rtZ)) ∧ Box w s 33 (rcL (if D' 3 = true then x else rcZ)) ∧ True
        rw [hd2, hd3]
        exact hSw))
    | 2, _, ho =>
      obtain rfl := Option.some.inj (ho.symm.trans (sn9_2 ps))
      have s0 : a.eval (.tmp 47) = agv (rtL q) := hs 0 47 (by rfl) rfl
      have u8 : a.eval (.tmp 8) = .pointer (some ⟨r, 0, none⟩) := (hel 8 (by decide)).trans e8
      exact op_stoW (sn9_2 ps) rfl rfl (w' := (w.setRow r (rtL q).toArray)) (run_storeS rfl u8 s0 hSw.2.2.2.1 rfl isS23 (rtL_one _)) (hK _ (fun D' hi' hj' => by
        have hd2 : D' 2 = true := hi'
        have hd3 : D' 3 = D 3 := hj' 3 (by decide)
        show Below B0 WW (w.setRow r (rtL q).toArray) ∧ Box (w.setRow r (rtL q).toArray) p 23 (rtL q) ∧ Box (w.setRow r (rtL q).toArray) y 33 (rcL x) ∧ Box (w.setRow r (rtL q).toArray) r 23 (rtL (if D' 2 = true then q else rtZ)) ∧ Box (w.setRow r (rtL q).toArray) s 33 (rcL (if D' 3 = true then x else rcZ)) ∧ True
        rw [hd2, hd3]
        exact ⟨(stoR (rtL q) hSw.2.2.2.1).1.below _ _ (by omega) hSw.1, hSw.2.1.sto (stoR (rtL q) hSw.2.2.2.1).1 (by omega), hSw.2.2.1.sto (stoR (rtL q) hSw.2.2.2.1).1 (by omega), (stoR (rtL q) hSw.2.2.2.1).2, hSw.2.2.2.2.1.sto (stoR (rtL q) hSw.2.2.2.1).1 (by omega), trivial⟩))
    | 3, _, ho =>
      obtain rfl := Option.some.inj (ho.symm.trans (sn9_3 ps))
      have s1 : a.eval (.tmp 48) = agv (rcL x) := hs 1 48 (by rfl) rfl
      have u9 : a.eval (.tmp 9) = .pointer (some ⟨s, 0, none⟩) := (hel 9 (by decide)).trans e9
      exact op_stoW (sn9_3 ps) rfl rfl (w' := (w.setRow s (rcL x).toArray)) (run_storeS rfl u9 s1 hSw.2.2.2.2.1 rfl isS33 (rcL_one _)) (hK _ (fun D' hi' hj' => by
        have hd2 : D' 2 = D 2 := hj' 2 (by decide)
        have hd3 : D' 3 = true := hi'
        show Below B0 WW (w.setRow s (rcL x).toArray) ∧ Box (w.setRow s (rcL x).toArray) p 23 (rtL q) ∧ Box (w.setRow s (rcL x).toArray) y 33 (rcL x) ∧ Box (w.setRow s (rcL x).toArray) r 23 (rtL (if D' 2 = true then q else rtZ)) ∧ Box (w.setRow s (rcL x).toArray) s 33 (rcL (if D' 3 = true then x else rcZ)) ∧ True
        rw [hd2, hd3]
        exact ⟨(stoR (rcL x) hSw.2.2.2.2.1).1.below _ _ (by omega) hSw.1, hSw.2.1.sto (stoR (rcL x) hSw.2.2.2.2.1).1 (by omega), hSw.2.2.1.sto (stoR (rcL x) hSw.2.2.2.2.1).1 (by omega), hSw.2.2.2.1.sto (stoR (rcL x) hSw.2.2.2.2.1).1 (by omega), (stoR (rcL x) hSw.2.2.2.2.1).2, trivial⟩))
    | 4, _, ho =>
      obtain rfl := Option.some.inj (ho.symm.trans (sn9_4 ps))
      exact op_valW (sn9_4 ps) rfl (v := .int .i64 0) (by unfold sn9O4 execOp; skip; first | (go_simp; done) | (go_simp; with_reducible rfl)) (hK w (fun D' hi' hj' => by
        have hd2 : D' 2 = D 2 := hj' 2 (by decide)
        have hd3 : D' 3 = D 3 := hj' 3 (by decide)
        show Below B0 WW w ∧ Box w p 23 (rtL q) ∧ Box w y 33 (rcL x) ∧ Box w r 23 (rtL (if D' 2 = true then q else rtZ)) ∧ Box w s 33 (rcL (if D' 3 = true then x else rcZ)) ∧ True
        rw [hd2, hd3]
        exact hSw))
    | iq + 5, hin, _ => exact absurd hin (by omega)
def rsn12O0 (ps : String) : Oper := { dst := some 44, op := .load 23 (.tmp 4), type := 23, pos := ps, after := #[], guard := none }
def rsn12O1 (ps : String) : Oper := { dst := some 45, op := .load 33 (.tmp 5), type := 33, pos := ps, after := #[{ on := 2, ground := .gcOnly .lateStores }], guard := none }
def rsn12O2 (ps : String) : Oper := { dst := none, op := .store 23 (.tmp 8) (.tmp 44), type := 0, pos := ps, after := #[{ on := 0, ground := .data }, { on := 0, ground := .phase }, { on := 1, ground := .textOnly .lateStores }], guard := none }
def rsn12O3 (ps : String) : Oper := { dst := none, op := .store 33 (.tmp 9) (.tmp 45), type := 0, pos := ps, after := #[{ on := 1, ground := .data }, { on := 2, ground := .chain }, { on := 0, ground := .phase }, { on := 1, ground := .phase }, { on := 2, ground := .phase }], guard := none }
def rsn12O4 (ps : String) : Oper := { dst := some 10, op := .assign (.const (.int .i64 0)), type := 3, pos := ps, after := #[{ on := 3, ground := .chain }, { on := 0, ground := .phase }, { on := 1, ground := .phase }, { on := 2, ground := .phase }, { on := 3, ground := .phase }], guard := none }
def rsn12 (ps : String) : Array Oper := #[rsn12O0 ps, rsn12O1 ps, rsn12O2 ps, rsn12O3 ps, rsn12O4 ps]
theorem rsn12_0 (ps : String) : (rsn12 ps)[0]? = some (rsn12O0 ps) := rfl
theorem rsn12_1 (ps : String) : (rsn12 ps)[1]? = some (rsn12O1 ps) := rfl
theorem rsn12_2 (ps : String) : (rsn12 ps)[2]? = some (rsn12O2 ps) := rfl
theorem rsn12_3 (ps : String) : (rsn12 ps)[3]? = some (rsn12O3 ps) := rfl
theorem rsn12_4 (ps : String) : (rsn12 ps)[4]? = some (rsn12O4 ps) := rfl
def rsn12D : Nat → Option Tmp
  | 0 => some 44
  | 1 => some 45
  | 2 => none
  | 3 => none
  | 4 => some 10
  | _ => none
def rsn12T (q : Rt) (x : Rc) (p y r s B0 : Nat) (WW : World) : Nat → Value
  | 0 => agv (rtL q)
  | 1 => agv (rcL x)
  | 2 => undef
  | 3 => undef
  | 4 => .int .i64 0
  | _ => undef
set_option maxRecDepth 100000 in
set_option maxHeartbeats 4000000 in
theorem rsn12_reg {ps : String} {Q : Exit → Act → World → Prop} {a0 : Act} {W0 : World} (sz : a0.tmps.size = 46) (q : Rt) (x : Rc) (p y r s B0 : Nat) (WW : World)
    (e4 : a0.eval (.tmp 4) = .pointer (some ⟨p, 0, none⟩)) (e5 : a0.eval (.tmp 5) = .pointer (some ⟨y, 0, none⟩)) (e8 : a0.eval (.tmp 8) = .pointer (some ⟨r, 0, none⟩)) (e9 : a0.eval (.tmp 9) = .pointer (some ⟨s, 0, none⟩))
    (l0 : B0 ≤ p) (l1 : p < y) (l2 : y < r) (l3 : r < s) (hS0 : Below B0 WW W0 ∧ Box W0 p 23 (rtL q) ∧ Box W0 y 33 (rcL x) ∧ Box W0 r 23 (rtL (if false = true then q else rtZ)) ∧ Box W0 s 33 (rcL (if false = true then x else rcZ)) ∧ True)
    (hfin : ∀ (T : Nat → Value) w, T 4 = .int .i64 0 → Below B0 WW w ∧ Box w p 23 (rtL q) ∧ Box w y 33 (rcL x) ∧ Box w r 23 (rtL q) ∧ Box w s 33 (rcL x) ∧ True → Q .normal (((a0.put (some 44) (T 0)).put (some 45) (T 1)).put (some 10) (T 4)) w) :
    (Code.region 12 (rsn12 ps) true).wp Try.prog Q a0 W0 := by
  refine wp_region_dets (by kernel_rfl) 5 rfl rsn12D ?_ (by decide) (rsn12T q x p y r s B0 WW) (fun D w => Below B0 WW w ∧ Box w p 23 (rtL q) ∧ Box w y 33 (rcL x) ∧ Box w r 23 (rtL (if D 2 = true then q else rtZ)) ∧ Box w s 33 (rcL (if D 3 = true then x else rcZ)) ∧ True) (fun D hD => by
    show Below B0 WW W0.drew ∧ Box W0.drew p 23 (rtL q) ∧ Box W0.drew y 33 (rcL x) ∧ Box W0.drew r 23 (rtL (if D 2 = true then q else rtZ)) ∧ Box W0.drew s 33 (rcL (if D 3 = true then x else rcZ)) ∧ True
    rw [hD 2, hD 3]
    exact ⟨hS0.1.drew, hS0.2.1, hS0.2.2.1, hS0.2.2.2.1, hS0.2.2.2.2.1, trivial⟩) ?_ (by rfl) (fun w D hD hSw => by
    have hSw' : Below B0 WW w ∧ Box w p 23 (rtL q) ∧ Box w y 33 (rcL x) ∧ Box w r 23 (rtL (if D 2 = true then q else rtZ)) ∧ Box w s 33 (rcL (if D 3 = true then x else rcZ)) ∧ True := hSw
    rw [hD 2 (by decide), hD 3 (by decide)] at hSw'
    exact hfin (rsn12T q x p y r s B0 WW) w rfl hSw')
  · intro jq t hj ht
    have : ∀ j, j < 5 → (rsn12D j).all (· < 46) = true := by decide
    have := this jq hj
    rw [ht] at this
    rw [sz]
    simpa using this
  · intro iq o ho D a w hSw hDi hcl hs hel K hK
    have hin : iq < 5 := (Array.getElem?_eq_some_iff.1 ho).1
    match iq, hin, ho with
    | 0, _, ho =>
      obtain rfl := Option.some.inj (ho.symm.trans (rsn12_0 ps))
      have u4 : a.eval (.tmp 4) = .pointer (some ⟨p, 0, none⟩) := (hel 4 (by decide)).trans e4
      exact op_valW (rsn12_0 ps) rfl (v := agv (rtL q)) (run_loadS isS23 rfl u4 hSw.2.1) (hK w (fun D' hi' hj' => by
        have hd2 : D' 2 = D 2 := hj' 2 (by decide)
        have hd3 : D' 3 = D 3 := hj' 3 (by decide)
        show Below B0 WW w ∧ Box w p 23 (rtL q) ∧ Box w y 33 (rcL x) ∧ Box w r 23 (rtL (if D' 2 = true then q else rtZ)) ∧ Box w s 33 (rcL (if D' 3 = true then x else rcZ)) ∧ True
        rw [hd2, hd3]
        exact hSw))
    | 1, _, ho =>
      obtain rfl := Option.some.inj (ho.symm.trans (rsn12_1 ps))
      have u5 : a.eval (.tmp 5) = .pointer (some ⟨y, 0, none⟩) := (hel 5 (by decide)).trans e5
      exact op_valW (rsn12_1 ps) rfl (v := agv (rcL x)) (run_loadS isS33 rfl u5 hSw.2.2.1) (hK w (fun D' hi' hj' => by
        have hd2 : D' 2 = D 2 := hj' 2 (by decide)
        have hd3 : D' 3 = D 3 := hj' 3 (by decide)
        show Below B0 WW w ∧ Box w p 23 (rtL q) ∧ Box w y 33 (rcL x) ∧ Box w r 23 (rtL (if D' 2 = true then q else rtZ)) ∧ Box w s 33 (rcL (if D' 3 = true then x else rcZ)) ∧ True
        rw [hd2, hd3]
        exact hSw))
    | 2, _, ho =>
      obtain rfl := Option.some.inj (ho.symm.trans (rsn12_2 ps))
      have s0 : a.eval (.tmp 44) = agv (rtL q) := hs 0 44 (by rfl) rfl
      have u8 : a.eval (.tmp 8) = .pointer (some ⟨r, 0, none⟩) := (hel 8 (by decide)).trans e8
      exact op_stoW (rsn12_2 ps) rfl rfl (w' := (w.setRow r (rtL q).toArray)) (run_storeS rfl u8 s0 hSw.2.2.2.1 rfl isS23 (rtL_one _)) (hK _ (fun D' hi' hj' => by
        have hd2 : D' 2 = true := hi'
        have hd3 : D' 3 = D 3 := hj' 3 (by decide)
        show Below B0 WW (w.setRow r (rtL q).toArray) ∧ Box (w.setRow r (rtL q).toArray) p 23 (rtL q) ∧ Box (w.setRow r (rtL q).toArray) y 33 (rcL x) ∧ Box (w.setRow r (rtL q).toArray) r 23 (rtL (if D' 2 = true then q else rtZ)) ∧ Box (w.setRow r (rtL q).toArray) s 33 (rcL (if D' 3 = true then x else rcZ)) ∧ True
        rw [hd2, hd3]
        exact ⟨(stoR (rtL q) hSw.2.2.2.1).1.below _ _ (by omega) hSw.1, hSw.2.1.sto (stoR (rtL q) hSw.2.2.2.1).1 (by omega), hSw.2.2.1.sto (stoR (rtL q) hSw.2.2.2.1).1 (by omega), (stoR (rtL q) hSw.2.2.2.1).2, hSw.2.2.2.2.1.sto (stoR (rtL q) hSw.2.2.2.1).1 (by omega), trivial⟩))
    | 3, _, ho =>
      obtain rfl := Option.some.inj (ho.symm.trans (rsn12_3 ps))
      have s1 : a.eval (.tmp 45) = agv (rcL x) := hs 1 45 (by rfl) rfl
      have u9 : a.eval (.tmp 9) = .pointer (some ⟨s, 0, none⟩) := (hel 9 (by decide)).trans e9
      exact op_stoW (rsn12_3 ps) rfl rfl (w' := (w.setRow s (rcL x).toArray)) (run_storeS rfl u9 s1 hSw.2.2.2.2.1 rfl isS33 (rcL_one _)) (hK _ (fun D' hi' hj' => by
        have hd2 : D' 2 = D 2 := hj' 2 (by decide)
        have hd3 : D' 3 = true := hi'
        show Below B0 WW (w.setRow s (rcL x).toArray) ∧ Box (w.setRow s (rcL x).toArray) p 23 (rtL q) ∧ Box (w.setRow s (rcL x).toArray) y 33 (rcL x) ∧ Box (w.setRow s (rcL x).toArray) r 23 (rtL (if D' 2 = true then q else rtZ)) ∧ Box (w.setRow s (rcL x).toArray) s 33 (rcL (if D' 3 = true then x else rcZ)) ∧ True
        rw [hd2, hd3]
        exact ⟨(stoR (rcL x) hSw.2.2.2.2.1).1.below _ _ (by omega) hSw.1, hSw.2.1.sto (stoR (rcL x) hSw.2.2.2.2.1).1 (by omega), hSw.2.2.1.sto (stoR (rcL x) hSw.2.2.2.2.1).1 (by omega), hSw.2.2.2.1.sto (stoR (rcL x) hSw.2.2.2.2.1).1 (by omega), (stoR (rcL x) hSw.2.2.2.2.1).2, trivial⟩))
    | 4, _, ho =>
      obtain rfl := Option.some.inj (ho.symm.trans (rsn12_4 ps))
      exact op_valW (rsn12_4 ps) rfl (v := .int .i64 0) (by unfold rsn12O4 execOp; skip; first | (go_simp; done) | (go_simp; with_reducible rfl)) (hK w (fun D' hi' hj' => by
        have hd2 : D' 2 = D 2 := hj' 2 (by decide)
        have hd3 : D' 3 = D 3 := hj' 3 (by decide)
        show Below B0 WW w ∧ Box w p 23 (rtL q) ∧ Box w y 33 (rcL x) ∧ Box w r 23 (rtL (if D' 2 = true then q else rtZ)) ∧ Box w s 33 (rcL (if D' 3 = true then x else rcZ)) ∧ True
        rw [hd2, hd3]
        exact hSw))
    | iq + 5, hin, _ => exact absurd hin (by omega)
end Go.Proofs.Ytdgiapeniafklaa
