/- Comparisons of windows. -/
import Derived.Test.YtliiogafemlagaaLeaf
import Derived.Laws.StructEq
namespace Go.Proofs.Ytliiogafemlagaa
open Go.ChangeShapes Go.WideShapes Go.ChangeAt Go.RowKit Go.Shelf
set_option linter.unusedVariables false
set_option linter.unusedSimpArgs false
attribute [local go_sem] Oper.semAt_some


section
variable {ops : Array Oper} {rest : List Oper} {o : Oper} {a : Act} {w : World} {Q : Exit → Act → World → Prop}
/-- What == and != of these two structs answer: b tells whether they are alike. -/
def CmpS (t : TypeId) (cs ds : List Value) (b : Bool) : Prop := ∀ W op x y, op = .eql ∨ op = .neq → (eqGuard op t x y (agv cs) (agv ds)).run Try.prog W = .ok () W ∧ (binOp op t (agv cs) (agv ds)).run Try.prog W = .ok (.bool (if op = .eql then b else !b)) W
theorem wpS_cmp {op : BinOp} (hw : Region.wanted o (yielded ops a.tmps) = true) {t z : TypeId} {x y : Operand} (ho : o.op = .binOp op t x y z) {cs ds : List Value} (hx : a.eval x = agv cs) (hy : a.eval y = agv ds) (hop : op = .eql ∨ op = .neq) {b : Bool} (hE : CmpS t cs ds b)
    (h : wpList Try.prog ops Q rest (a.put o.dst (.bool (if op = .eql then b else !b))) w) : wpList Try.prog ops Q (o :: rest) a w := by
  refine wpList_step fun K hK => ?_
  rw [if_pos hw]
  unfold Oper.wp execOp
  obtain ⟨h1, h2⟩ := hE w op x y hop
  simp only [ho, hx, hy, Sem.run_bind, h1, h2, Result.andThen_ok]
  exact hK _ _ h
theorem wpS_buildG (hw : Region.wanted o (yielded ops a.tmps) = true) {ty : TypeId} {ps : List (Nat × Operand)} (ho : o.op = .build ty ps.toArray) {cs : List Value} (hb : Try.prog.built ty (ps.map fun (i, x) => (i, a.eval x)) = some cs.toArray)
    (h : wpList Try.prog ops Q rest (a.put o.dst (agv cs)) w) : wpList Try.prog ops Q (o :: rest) a w := by
  have hb' : Try.prog.built ty (ps.toArray.map fun (i, x) => (i, a.eval x)).toList = some cs.toArray := by simpa using hb
  refine wpList_step fun K hK => ?_
  rw [if_pos hw]
  unfold Oper.wp execOp
  simp only [ho, Sem.run_bind, run_build w ty _ cs.toArray hb', Result.andThen_ok]
  exact hK _ _ h
theorem wpS_eql (hw : Region.wanted o (yielded ops a.tmps) = true) {t z : TypeId} {x y : Operand} (ho : o.op = .binOp .eql t x y z) {cs : List Value} (hx : a.eval x = agv cs) (hy : a.eval y = agv cs) (hE : CmpS t cs cs true)
    (h : wpList Try.prog ops Q rest (a.put o.dst (.bool true)) w) : wpList Try.prog ops Q (o :: rest) a w := wpS_cmp hw ho hx hy (.inl rfl) hE h
end
theorem run_cmpS {ev : Operand → Value} {o : Oper} {w : World} {op : BinOp} {t z : TypeId} {x y : Operand} (ho : o.op = .binOp op t x y z) {cs ds : List Value} (hx : ev x = agv cs) (hy : ev y = agv ds) (hop : op = .eql ∨ op = .neq) {b : Bool} (hE : CmpS t cs ds b) : (execOp ev o).run Try.prog w = .ok (.value (.bool (if op = .eql then b else !b))) w := by
  unfold execOp
  obtain ⟨h1, h2⟩ := hE w op x y hop
  simp only [ho, hx, hy, Sem.run_bind, h1, h2, Result.andThen_ok, Sem.run_pure]

theorem cmpS (q : Wn) : CmpS 23 (wnL q) (wnL q) true := by
  rintro W op x y (rfl | rfl)
  all_goals (refine ⟨?_, ?_⟩ <;> simp [go_sem, agv, wnL])
end Go.Proofs.Ytliiogafemlagaa
