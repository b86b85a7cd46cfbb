/- Operations of a drawn region, each by itself. -/
import Derived.Test.YtdodagpkkjpdiaaInv
namespace Go.Proofs.Ytdodagpkkjpdiaa
open Go.ChangeShapes Go.WideShapes Go.ChangeAt Go.RowKit Go.Shelf
set_option linter.unusedVariables false
set_option linter.unusedSimpArgs false

section
variable {P : Program} {ops : Array Oper} {Q : Exit → Act → World → Prop} {i : Nat} {o : Oper} {K : Act → World → Prop} {a : Act} {w : World}
theorem op_val (ho : ops[i]? = some o) (hg : o.guard = none) {v : Value} {w' : World} (hr : (execOp a.eval o).run P w = .ok (.value v) w') (hK : K (a.put o.dst v) w') : wpOp P ops Q i K a w := by
  refine wpOp_step ho (fun K' hK' => ?_)
  have hw : Region.wanted o (yielded ops a.tmps) = true := by simp [Region.wanted, hg]
  rw [if_pos hw]
  unfold Oper.wp
  rw [hr]
  exact hK' _ _ hK
theorem op_enter (ho : ops[i]? = some o) (hg : o.guard = none) {f : FuncId} {args : Array Value} (hr : (execOp a.eval o).run P w = .ok (.enter f args) w) (hc : Calls P f args w fun e w' => ∃ v, e = .returned v ∧ K (a.put o.dst v) w') : wpOp P ops Q i K a w := by
  refine wpOp_step ho (fun K' hK' => ?_)
  have hw : Region.wanted o (yielded ops a.tmps) = true := by simp [Region.wanted, hg]
  rw [if_pos hw]
  unfold Oper.wp
  rw [hr, Oper.upon_enter]
  refine hc.mono ?_
  rintro e w' ⟨v, rfl, h⟩
  exact hK' _ _ h
theorem op_if (ho : ops[i]? = some o) (h : ∀ K' : Act → World → Prop, (∀ a w, K a w → K' a w) → if Region.wanted o (yielded ops a.tmps) = true then Oper.wp P o a w K' Q else K' (a.put o.dst undef) w) : wpOp P ops Q i K a w := wpOp_step ho h
end
theorem run_move {ev : Operand → Value} {o : Oper} {p : Operand} (ho : o.op = .move p) (w : World) : (execOp ev o).run Try.prog w = .ok (.value (ev p)) w := by
  unfold execOp
  simp only [ho]
  first | (go_simp; done) | (go_simp; with_reducible rfl)
theorem run_assign {ev : Operand → Value} {o : Oper} {p : Operand} (ho : o.op = .assign p) (w : World) : (execOp ev o).run Try.prog w = .ok (.value (ev p)) w := by
  unfold execOp
  simp only [ho]
  first | (go_simp; done) | (go_simp; with_reducible rfl)
theorem run_extract {ev : Operand → Value} {o : Oper} {p : Operand} {k : Nat} (ho : o.op = .extract p k) {vs : Array Value} (hp : ev p = .tuple vs) {v : Value} (hv : vs[k]? = some v) (w : World) : (execOp ev o).run Try.prog w = .ok (.value v) w := by
  unfold execOp
  simp only [ho, hp]
  go_simp
theorem run_call {a : Act} {o : Oper} {f : FuncId} {args : Array Operand} {ts : Array TypeId} (ho : o.op = .call { callee := .value (.func f), args := args, argTypes := ts }) (eg : ∀ args w, (callFunc f args).run Try.prog w = .ok (.enter f args) w) (w : World) : (execOp a.eval o).run Try.prog w = .ok (.enter f (args.map a.eval)) w := by
  unfold execOp
  simp only [ho]
  go_simp
theorem each_of {ops : Array Oper} {f : Oper → Nat → Bool} (h : ops.toList.zipIdx.all (fun p => f p.1 p.2) = true) (i : Nat) (o : Oper) (ho : ops[i]? = some o) : f o i = true := by
  rw [List.all_eq_true] at h
  exact h (o, i) (List.mem_zipIdx_iff_getElem?.2 (by simpa using ho))
/-- Where nothing is left to be done, all is done. -/
theorem ends_of {ops : Array Oper} {n : Nat} (hn : ops.size = n) (hord : ∀ i o, ops[i]? = some o → ∀ e ∈ o.after, Region.binds .any e = true → e.on < i) (done : Array Bool) (hs : done.size = n) (hr : Region.ready .any ops done = []) : ∀ i, i < n → done.getD i true = true := by
  intro i
  induction i using Nat.strongRecOn with
  | _ i ih =>
    intro hi
    cases hd : done.getD i true with
    | true => rfl
    | false =>
      exfalso
      have hlt : i < ops.size := by omega
      have hm : i ∈ Region.ready .any ops done := by
        refine mem_ready.2 ⟨hd, ops[i], Array.getElem?_eq_getElem hlt, fun e he hb => ?_⟩
        have hlo := hord i _ (Array.getElem?_eq_getElem hlt) e he hb
        have := ih e.on hlo (by omega)
        have hl : e.on < done.size := by omega
        simp [hl] at this ⊢
        exact this
      rw [hr] at hm
      cases hm
end Go.Proofs.Ytdodagpkkjpdiaa
