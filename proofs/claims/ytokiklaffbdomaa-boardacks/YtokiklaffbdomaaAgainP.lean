/- One record turned: plain; records compared. -/
import Derived.Test.YtokiklaffbdomaaOpen
import Derived.Laws.StructEq
import Derived.Deep.QuietTactic
import Derived.BigQuiet
import Derived.Deep.RegionWith
import Derived.Deep.RegionHeld3
import Derived.Deep.DeepCutAuto
import Derived.BigRegion
namespace Go.Proofs.Ytokiklaffbdomaa
open Go.ChangeShapes Go.WideShapes Go.ChangeAt Go.RowKit Go.Shelf
set_option linter.unusedVariables false
attribute [local go_sem] Oper.semAt_some

theorem ne28 (x : Rc) (w : World) : (binOp .neq 28 (.agg #[.int .i64 x.f, .int .i64 x.t, .bool x.fin, .int .i64 x.sent, .int .i64 x.tx, .bool x.sk, .bool x.lo, .bool x.ag, .int .i64 x.gv, .int .i64 x.ga, .int .i64 x.fa, .bool x.idl]) (.agg #[.int .i64 x.f, .int .i64 x.t, .bool x.fin, .int .i64 x.sent, .int .i64 x.tx, .bool x.sk, .bool x.lo, .bool x.ag, .int .i64 x.gv, .int .i64 x.ga, .int .i64 x.fa, .bool x.idl])).run Try.prog w = .ok (.bool false) w := by
  have hu : Try.prog.underlying 28 = some (.struct (Try.prog.fieldsOf 28)) := by kernel_rfl
  have hs : Try.prog.stoodInHeld 28 = false := by kernel_rfl
  have h := run_equalIn_struct (P := Try.prog) w 9999 28 #[.int .i64 x.f, .int .i64 x.t, .bool x.fin, .int .i64 x.sent, .int .i64 x.tx, .bool x.sk, .bool x.lo, .bool x.ag, .int .i64 x.gv, .int .i64 x.ga, .int .i64 x.fa, .bool x.idl] #[.int .i64 x.f, .int .i64 x.t, .bool x.fin, .int .i64 x.sent, .int .i64 x.tx, .bool x.sk, .bool x.lo, .bool x.ag, .int .i64 x.gv, .int .i64 x.ga, .int .i64 x.fa, .bool x.idl] hu hs
  simp only [binOp]
  simp [Op.equal, Op.maxDepth, h, Op.eqFields, go_sem]
theorem nth_set_ends {ts : List Rc} {j : Nat} (hj : j < ts.length) {y : Rc} (e1 : y.f = (nth ts j).f) (e2 : y.t = (nth ts j).t) (e3 : y.fin = (nth ts j).fin) (i : Nat) : (nth (ts.set j y) i).f = (nth ts i).f ∧ (nth (ts.set j y) i).t = (nth ts i).t ∧ (nth (ts.set j y) i).fin = (nth ts i).fin := by
  by_cases h : i = j
  · subst h; rw [nth_set_self hj]; exact ⟨e1, e2, e3⟩
  · rw [nth_set_other h]; exact ⟨rfl, rfl, rfl⟩
theorem okB_set {ts : List Rc} (h : okB ts = true) {j : Nat} (hj : j < ts.length) {y : Rc} (hy : okR y = true) (e1 : y.f = (nth ts j).f) (e2 : y.t = (nth ts j).t) (e3 : y.fin = (nth ts j).fin) : okB (ts.set j y) = true := by
  obtain ⟨h1, h2⟩ := okB_iff.1 h
  refine okB_iff.2 ⟨by simpa using h1, fun i hi => ?_⟩
  rw [List.length_set] at hi
  have h3 := okAt_iff.1 (h2 i hi)
  refine okAt_iff.2 ⟨?_, ?_⟩
  · by_cases e : i = j
    · subst e; rw [nth_set_self hj]; exact hy
    · rw [nth_set_other e]; exact h3.1
  · rw [(nth_set_ends hj e1 e2 e3 i).1, (nth_set_ends hj e1 e2 e3 (i - 1)).2.1, (nth_set_ends hj e1 e2 e3 (i - 1)).2.2]
    exact h3.2
theorem sizeL_set (p : Rc → Bool) : ∀ (ts : List Rc) (j : Nat) (y : Rc), j < ts.length → sizeL ((ts.set j y).filter p) = sizeL (ts.filter p) - (if p (nth ts j) = true then (nth ts j).t - (nth ts j).f else 0) + (if p y = true then y.t - y.f else 0)
  | [], j, y, h => by simp at h
  | a :: r, 0, y, _ => by
    have e : nth (a :: r) 0 = a := rfl
    rw [List.set_cons_zero, e, List.filter_cons, List.filter_cons]
    split <;> split <;> simp [sizeL] <;> omega
  | a :: r, j + 1, y, h => by
    have e : nth (a :: r) (j + 1) = nth r j := by simp [nth]
    have ih := sizeL_set p r j y (by simpa using h)
    rw [List.set_cons_succ, e, List.filter_cons, List.filter_cons]
    split
    · simp only [sizeL]; omega
    · exact ih
theorem againR_ok {x : Rc} (h : okR x = true) {now : Int} (hn : tmB now = true) : okR (againR x now) = true := by
  obtain ⟨h1, h2, h3, h4, h5, h6, h7, h8, h9, h10⟩ := okR_out h
  refine okR_in ⟨h1, h2, h3, by simp [againR]; omega⟩ hn h6 h7 h8 (fun h => h) (fun e => ?_)
  have := h10 e
  exact ⟨this.1, this.1⟩
theorem again_ok {ts : List Rc} (h : okB ts = true) {j : Nat} (hj : j < ts.length) {now : Int} (hn : tmB now = true) : okB (ts.set j (againR (nth ts j) now)) = true :=
  okB_set h hj (againR_ok (okB_at h hj) hn) rfl rfl rfl
def moreI (x : Rc) : Int := if (x.lo && !x.ag) = true then x.t - x.f else 0
theorem again_pipe {ts : List Rc} (h : okB ts = true) {j : Nat} (hj : j < ts.length) {now : Int} (hn : tmB now = true) : cntB pipeB (ts.set j (againR (nth ts j) now)) = cntB pipeB ts + moreI (nth ts j) := by
  unfold cntB
  rw [if_pos h, if_pos (again_ok h hj hn), sizeL_set pipeB ts j _ hj]
  obtain ⟨_, _, _, _, _, _, _, _, h9, h10⟩ := okR_out (okB_at h hj)
  generalize nth ts j = x at h9 h10 ⊢
  obtain ⟨f, t, fin, sent, tx, sk, lo, ag, gv, ga, fa, idl⟩ := x
  simp only [pipeB, againR, moreI] at h9 h10 ⊢
  generalize sizeL (ts.filter pipeB) = s
  clear hn hj h
  cases lo <;> cases ag <;> cases sk
  all_goals first
    | (exfalso; revert h9 h10; simp; done)
    | (simp; done)
    | (simp; omega)
end Go.Proofs.Ytokiklaffbdomaa
