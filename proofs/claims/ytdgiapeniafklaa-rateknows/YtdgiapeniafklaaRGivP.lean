/- The document's Given, in plain numbers. -/
import Derived.Test.YtdgiapeniafklaaRGiv0
namespace Go.Proofs.Ytdgiapeniafklaa
open Go.ChangeShapes Go.WideShapes Go.ChangeAt Go.RowKit Go.Shelf
set_option linter.unusedVariables false
set_option linter.unusedSimpArgs false
attribute [local go_sem] Oper.semAt_some


def gU (q : Rt) (ts : List Rc) (i : Nat) : Int := min (q.gv + ackU ts i) 1125899906842624
theorem gU_0 {q : Rt} (h : 0 ≤ q.gv ∧ q.gv ≤ 1125899906842624) (ts : List Rc) : gU q ts 0 = q.gv := by unfold gU; rw [ackU_0]; omega
theorem gU_next {q : Rt} (h : 0 ≤ q.gv ∧ q.gv ≤ 1125899906842624) {ts : List Rc} {i : Nat} (hi : i < ts.length) (ha : 0 ≤ ackU ts i ∧ ackU ts i ≤ 1125899906842624) (hr : recB (nth ts i) = true) : min (gU q ts i + ((nth ts i).t - (nth ts i).f)) 1125899906842624 = gU q ts (i + 1) := by
  have := rec_out hr
  unfold gU; rw [ackU_next hi]; omega
/-- Which record counts, of the first i. -/
def OneAt (ts : List Rc) (i : Nat) (oi : Int) : Prop := (i = 0 ∧ oi = -1) ∨ ∃ j : Nat, j < i ∧ oi = (j : Int) ∧ nth ts j = oneU ts i
theorem OneAt.new {ts : List Rc} {i : Nat} {oi : Int} (h : OneAt ts i oi) (hi : i < ts.length) (hc : (oneU ts i).gv ≤ (nth ts i).gv) : OneAt ts (i + 1) (i : Int) := .inr ⟨i, by omega, rfl, by rw [oneU_next hi, if_pos hc]⟩
theorem OneAt.old {ts : List Rc} {i j : Nat} (h : nth ts j = oneU ts i) (hj : j < i) (hi : i < ts.length) (hc : ¬ (oneU ts i).gv ≤ (nth ts i).gv) : OneAt ts (i + 1) (j : Int) := .inr ⟨j, by omega, rfl, by rw [oneU_next hi, if_neg hc]; exact h⟩
theorem built26n (now : Int) : Try.prog.built 26 [(0, .int .i64 now)] = some (smL ⟨now, 0, 0, 0, false, 0, 0, 0⟩).toArray := by kernel_rfl
end Go.Proofs.Ytdgiapeniafklaa
