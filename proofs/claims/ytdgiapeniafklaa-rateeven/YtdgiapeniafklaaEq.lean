/- Comparisons of structs; a slice of one record. -/
import Derived.Test.YtdgiapeniafklaaGiv
import Derived.Test.YtdgiapeniafklaaIdl
import Derived.Laws.StructEq
import Derived.Great.BuildSlice
namespace Go.Proofs.Ytdgiapeniafklaa
open Go.ChangeShapes Go.WideShapes Go.ChangeAt Go.RowKit Go.Shelf
set_option linter.unusedVariables false
set_option linter.unusedSimpArgs false
attribute [local go_sem] Oper.semAt_some


section
variable {ops : Array Oper} {rest : List Oper} {o : Oper} {a : Act} {w : World} {Q : Exit → Act → World → Prop}
/-- What == and != of two like structs answer. -/
def EqS (t : TypeId) (cs : List Value) : Prop := ∀ W op x y, op = .eql ∨ op = .neq → (eqGuard op t x y (agv cs) (agv cs)).run Try.prog W = .ok () W ∧ (binOp op t (agv cs) (agv cs)).run Try.prog W = .ok (.bool (op == .eql)) W
theorem wpS_eql (hw : Region.wanted o (yielded ops a.tmps) = true) {t z : TypeId} {x y : Operand} (ho : o.op = .binOp .eql t x y z) {cs : List Value} (hx : a.eval x = agv cs) (hy : a.eval y = agv cs) (hE : EqS t cs)
    (h : wpList Try.prog ops Q rest (a.put o.dst (.bool true)) w) : wpList Try.prog ops Q (o :: rest) a w := by
  refine wpList_step fun K hK => ?_
  rw [if_pos hw]
  unfold Oper.wp execOp
  obtain ⟨h1, h2⟩ := hE w .eql x y (.inl rfl)
  simp only [ho, hx, hy, Sem.run_bind, h1, h2, Result.andThen_ok]
  exact hK _ _ h
theorem wpS_eqlS (hw : Region.wanted o (yielded ops a.tmps) = true) {t z : TypeId} {x y : Operand} (ho : o.op = .binOp .eql t x y z) {cs : List Value} (hx : a.eval x = agv cs) (hy : a.eval y = agv cs) (hE : EqS t cs)
    (h : ∀ X, Hid (X = w) → wpList Try.prog ops Q rest (a.put o.dst (.bool true)) X) : wpList Try.prog ops Q (o :: rest) a w := wpS_eql hw ho hx hy hE (h w rfl)
theorem wpS_buildG (hw : Region.wanted o (yielded ops a.tmps) = true) {ty : TypeId} {ps : List (Nat × Operand)} (ho : o.op = .build ty ps.toArray) {cs : List Value} (hb : Try.prog.built ty (ps.map fun (i, x) => (i, a.eval x)) = some cs.toArray)
    (h : wpList Try.prog ops Q rest (a.put o.dst (agv cs)) w) : wpList Try.prog ops Q (o :: rest) a w := by
  have hb' : Try.prog.built ty (ps.toArray.map fun (i, x) => (i, a.eval x)).toList = some cs.toArray := by simpa using hb
  refine wpList_step fun K hK => ?_
  rw [if_pos hw]
  unfold Oper.wp execOp
  simp only [ho, Sem.run_bind, run_build w ty _ cs.toArray hb', Result.andThen_ok]
  exact hK _ _ h
theorem wpS_rec1 (hgd : o.guard = none) {x : Operand} (ho : o.op = .buildSlice 24 1 #[(0, x)]) {r : Rc} (hx : a.eval x = agv (rcL r))
    (h : ∀ X g, Hid (g = w.heap.size ∧ Below w.heap.size w X ∧ Box X g 33 (rcL r)) → wpList Try.prog ops Q rest (a.put o.dst (.slice (some ⟨g, 0, none⟩) 1 1)) X) : wpList Try.prog ops Q (o :: rest) a w := by
  have hi := Try.info33
  cases hie : Try.prog.info? 33 with
  | none => rw [hie] at hi; simp at hi
  | some ie =>
    rw [hie] at hi
    simp only [Option.map_some, Option.some.injEq, Prod.mk.injEq] at hi
    refine wpList_buildSlice hgd 24 33 1 #[(0, x)] ho (rcL r).toArray ie _ Try.underlying24 hie hi.1 (by rw [hi.2.1]; omega) (by rw [hi.2.1]; omega) ?_ (h _ _ ⟨rfl, below_more (Below.refl _ _) _, Box.new w 33 (rcL r)⟩)
    rw [hi.2.1]
    simp only [List.map_toArray, List.map_cons, List.map_nil, hx]
    kernel_rfl
end
theorem recs_box {X : World} {g : Nat} {r : Rc} (h : Box X g 33 (rcL r)) : RecsAt X (some ⟨g, 0, none⟩) [r] := by
  refine ⟨by simp [maxLen], fun j hj => ⟨g, 0, rfl, ?_⟩⟩
  obtain rfl : j = 0 := by simp at hj; omega
  intro k v hk
  have := Box.cell h k hk
  simpa [nth] using this
theorem eqS23 (q : Rt) : EqS 23 (rtL q) := by
  rintro W op x y (rfl | rfl)
  all_goals (refine ⟨?_, ?_⟩ <;> simp [go_sem, agv, rtL])
theorem eqS26 (q : Sm) : EqS 26 (smL q) := by
  rintro W op x y (rfl | rfl)
  all_goals (refine ⟨?_, ?_⟩ <;> simp [go_sem, agv, smL])
theorem eqS33 (q : Rc) : EqS 33 (rcL q) := by
  rintro W op x y (rfl | rfl)
  all_goals (refine ⟨?_, ?_⟩ <;> simp [go_sem, agv, rcL])
end Go.Proofs.Ytdgiapeniafklaa
