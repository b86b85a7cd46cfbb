/- A region that draws its order and whose operations each yield one value. -/
import Derived.Test.YtdodagpkkjpdiaaInvG
namespace Go.Proofs.Ytdodagpkkjpdiaa
open Go.ChangeShapes Go.WideShapes Go.ChangeAt Go.RowKit Go.Shelf
set_option linter.unusedVariables false
set_option linter.unusedSimpArgs false

def boolOf : Value → Option Bool
  | .bool b => some b
  | _ => none
theorem boolOf_undef : boolOf undef = none := rfl
theorem yield_of {ops : Array Oper} {a : Act} {j : Nat} {o : Oper} {t : Tmp} (ho : ops[j]? = some o) (hd : o.dst = some t) : yielded ops a.tmps j = boolOf (a.eval (.tmp t)) := by
  unfold yielded
  rw [ho]
  simp only [Option.bind_some, hd]
  rcases Nat.lt_or_ge t a.tmps.size with h | h
  · simp only [Act.eval, Array.getElem?_eq_getElem h, Array.getD_eq_getD_getElem?, Option.getD_some]
    unfold boolOf
    split <;> simp_all
  · simp only [Act.eval, Array.getElem?_eq_none h, Array.getD_eq_getD_getElem?, Option.getD_none]
    rfl
theorem wanted_of {ops : Array Oper} {a : Act} {j : Nat} {o oj : Oper} {t : Tmp} {p : Bool} {v : Value} (hg : o.guard = some (j, p)) (ho : ops[j]? = some oj) (hd : oj.dst = some t) (hv : a.eval (.tmp t) = v) : Region.wanted o (yielded ops a.tmps) = (boolOf v == some p) := by
  unfold Region.wanted
  rw [hg]
  show (yielded ops a.tmps j == some p) = _
  rw [yield_of ho hd, hv]
section
variable {P : Program} {ops : Array Oper} {Q : Exit → Act → World → Prop} {i : Nat} {o : Oper} {K : Act → World → Prop} {a : Act} {w : World}
theorem op_skip (ho : ops[i]? = some o) (hw : Region.wanted o (yielded ops a.tmps) = false) (hK : K (a.put o.dst undef) w) : wpOp P ops Q i K a w := by
  refine wpOp_step ho (fun K' hK' => ?_)
  rw [if_neg (by rw [hw]; simp)]
  exact hK' _ _ hK
theorem op_valW (ho : ops[i]? = some o) (hw : Region.wanted o (yielded ops a.tmps) = true) {v : Value} {w' : World} (hr : (execOp a.eval o).run P w = .ok (.value v) w') (hK : K (a.put o.dst v) w') : wpOp P ops Q i K a w := by
  refine wpOp_step ho (fun K' hK' => ?_)
  rw [if_pos hw]
  unfold Oper.wp
  rw [hr]
  exact hK' _ _ hK
theorem op_enterW (ho : ops[i]? = some o) (hw : Region.wanted o (yielded ops a.tmps) = true) {f : FuncId} {args : Array Value} (hr : (execOp a.eval o).run P w = .ok (.enter f args) w) (hc : Calls P f args w fun e w' => ∃ v, e = .returned v ∧ K (a.put o.dst v) w') : wpOp P ops Q i K a w := by
  refine wpOp_step ho (fun K' hK' => ?_)
  rw [if_pos hw]
  unfold Oper.wp
  rw [hr, Oper.upon_enter]
  refine hc.mono ?_
  rintro e w' ⟨v, rfl, h⟩
  exact hK' _ _ h
end
theorem wp_region_det {P : Program} {ops : Array Oper} {Q : Exit → Act → World → Prop} {id : Nat} {a0 : Act} {w0 : World} (hm : P.follows .mixedOrders = true)
    (n : Nat) (hn : ops.size = n) (dst : Nat → Option Tmp) (hsz : ∀ j t, j < n → dst j = some t → t < a0.tmps.size)
    (hdist : ∀ j ∈ List.range n, ∀ k ∈ List.range n, j ≠ k → dst j ≠ dst k ∨ dst j = none)
    (T : Nat → Value) (S : World → Prop) (hS : S w0.drew)
    (hstep : ∀ i o, ops[i]? = some o → ∀ a w, S w → (∀ j t, (o.after.toList.any fun e => Region.binds .any e && e.on == j) = true → dst j = some t → a.eval (.tmp t) = T j) → (∀ t, (∀ j, j < n → dst j ≠ some t) → a.eval (.tmp t) = a0.eval (.tmp t)) →
      ∀ K : Act → World → Prop, (∀ w', S w' → K (a.put (dst i) (T i)) w') → wpOp P ops Q i K a w)
    (hord : ops.toList.zipIdx.all (fun p => p.1.after.toList.all fun e => !(Region.binds .any e) || decide (e.on < p.2)) = true)
    (hfin : ∀ w, S w → Q .normal (selA dst T (fun _ => true) (List.range n) a0) w) :
    (Code.region id ops true).wp P Q a0 w0 := by
  refine wp_region_slots hm n hn dst hsz hdist (fun i v _ => i < n → v i = T i) S (fun _ => []) (fun _ _ _ m hm => by cases hm) (fun i v v' _ hi e _ h hi' => e.symm.trans (h hi')) hS ?_ (ends_of hn ?_) ?_
  · intro i o ho D v a w kn hD hnD K hK
    refine hstep i o ho a w kn.all (fun j t hj ht => ?_) kn.els K (fun w' hS' => hK (T i) w' hS' (fun _ => upd_at ..) (fun _ _ h => h))
    simp only [List.any_eq_true, Bool.and_eq_true, beq_iff_eq] at hj
    obtain ⟨e, he, hbn, rfl⟩ := hj
    have hd := hD e (by simpa using he) hbn
    exact (kn.slot e.on t hd ht).trans (kn.fact e.on hd (kn.lt e.on hd))
  · intro i o ho e he hb
    have := each_of (ops := ops) (f := fun o i => o.after.toList.all fun e => !(Region.binds .any e) || decide (e.on < i)) hord i o ho
    rw [List.all_eq_true] at this
    have := this e (by simpa using he)
    rw [hb] at this
    simpa using this
  · intro v w hSw hF
    rw [selA_congr (vals' := T) (done' := fun _ => true) (List.range n) a0 (fun j hj => ⟨hF j (List.mem_range.1 hj) (List.mem_range.1 hj), rfl⟩)]
    exact hfin w hSw
end Go.Proofs.Ytdodagpkkjpdiaa
