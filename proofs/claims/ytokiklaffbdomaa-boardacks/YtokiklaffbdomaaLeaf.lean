/- The contracts of isTime, fits and of the tests that are handed over. -/
import Derived.Test.YtokiklaffbdomaaBase
namespace Go.Proofs.Ytokiklaffbdomaa
open Go.ChangeShapes Go.WideShapes Go.ChangeAt Go.RowKit Go.Shelf
set_option linter.unusedVariables false
attribute [local go_sem] Oper.semAt_some

set_option maxRecDepth 100000 in
set_option maxHeartbeats 4000000 in
theorem isTime_any (n : Int) (w : World) : Calls Try.prog 32 #[.int .i64 n] w fun e w' => e = .returned (.bool (tmB n)) ∧ w' = w := by
  go_enter Try.func32, Try.ntmps32
  go_wp2
  all_goals go_ret
  all_goals exact ⟨ret_bool (by unfold tmB; simp <;> omega), rfl⟩
theorem isTime_is (n : Int) (w : World) (r : Bool) (h : tmB n = r) : Calls Try.prog 32 #[.int .i64 n] w fun e w' => e = .returned (.bool r) ∧ w' = w := by
  subst h; exact isTime_any n w
set_option maxRecDepth 100000 in
set_option maxHeartbeats 4000000 in
theorem refTime_any (n : Int) (w : World) : Calls Try.prog 38 #[.int .i64 n] w fun e w' => e = .returned (.bool (tmB n)) ∧ w' = w := by
  go_enter Try.func38, Try.ntmps38
  go_wp2
  all_goals go_ret
  all_goals exact ⟨ret_bool (by unfold tmB; simp <;> omega), rfl⟩
def pipeB (x : Rc) : Bool := !x.sk && (!x.lo || x.ag)
def lostB (x : Rc) : Bool := x.lo && !x.ag
def sackB (x : Rc) : Bool := x.sk
def goneB (una : Int) (x : Rc) : Bool := decide (x.t ≤ una)
set_option maxRecDepth 100000 in
set_option maxHeartbeats 4000000 in
theorem pipe1_any (x : Rc) (w : World) : Calls Try.prog 35 #[.agg #[.int .i64 x.f, .int .i64 x.t, .bool x.fin, .int .i64 x.sent, .int .i64 x.tx, .bool x.sk, .bool x.lo, .bool x.ag, .int .i64 x.gv, .int .i64 x.ga, .int .i64 x.fa, .bool x.idl]] w fun e w' => e = .returned (.bool (pipeB x)) ∧ w' = w.alloc (.cells #[.int .i64 x.f, .int .i64 x.t, .bool x.fin, .int .i64 x.sent, .int .i64 x.tx, .bool x.sk, .bool x.lo, .bool x.ag, .int .i64 x.gv, .int .i64 x.ga, .int .i64 x.fa, .bool x.idl] 28) := by
  obtain ⟨f, t, fin, sent, tx, sk, lo, ag, gv, ga, fa, idl⟩ := x
  simp only [pipeB]
  cases lo <;> cases ag <;> cases sk
  all_goals (go_enter Try.func35, Try.ntmps35; go_wp2)
  all_goals go_ret
  all_goals exact ⟨rfl, rfl⟩
set_option maxRecDepth 100000 in
set_option maxHeartbeats 4000000 in
theorem lost1_any (x : Rc) (w : World) : Calls Try.prog 45 #[.agg #[.int .i64 x.f, .int .i64 x.t, .bool x.fin, .int .i64 x.sent, .int .i64 x.tx, .bool x.sk, .bool x.lo, .bool x.ag, .int .i64 x.gv, .int .i64 x.ga, .int .i64 x.fa, .bool x.idl]] w fun e w' => e = .returned (.bool (lostB x)) ∧ w' = w.alloc (.cells #[.int .i64 x.f, .int .i64 x.t, .bool x.fin, .int .i64 x.sent, .int .i64 x.tx, .bool x.sk, .bool x.lo, .bool x.ag, .int .i64 x.gv, .int .i64 x.ga, .int .i64 x.fa, .bool x.idl] 28) := by
  obtain ⟨f, t, fin, sent, tx, sk, lo, ag, gv, ga, fa, idl⟩ := x
  simp only [lostB]
  cases lo <;> cases ag
  all_goals (go_enter Try.func45, Try.ntmps45; go_wp2)
  all_goals go_ret
  all_goals exact ⟨rfl, rfl⟩
set_option maxRecDepth 100000 in
set_option maxHeartbeats 4000000 in
theorem sacked1_any (x : Rc) (w : World) : Calls Try.prog 46 #[.agg #[.int .i64 x.f, .int .i64 x.t, .bool x.fin, .int .i64 x.sent, .int .i64 x.tx, .bool x.sk, .bool x.lo, .bool x.ag, .int .i64 x.gv, .int .i64 x.ga, .int .i64 x.fa, .bool x.idl]] w fun e w' => e = .returned (.bool (sackB x)) ∧ w' = w.alloc (.cells #[.int .i64 x.f, .int .i64 x.t, .bool x.fin, .int .i64 x.sent, .int .i64 x.tx, .bool x.sk, .bool x.lo, .bool x.ag, .int .i64 x.gv, .int .i64 x.ga, .int .i64 x.fa, .bool x.idl] 28) := by
  obtain ⟨f, t, fin, sent, tx, sk, lo, ag, gv, ga, fa, idl⟩ := x
  simp only [sackB]
  go_enter Try.func46, Try.ntmps46
  go_wp2
  go_ret
  exact ⟨rfl, rfl⟩
set_option maxRecDepth 100000 in
set_option maxHeartbeats 4000000 in
theorem ack1_any (x : Rc) (Bu : Nat) (una : Int) (w : World) (hu : w.cell? ⟨Bu, 0, none⟩ = some (.int .i64 una)) : Calls Try.prog 40 #[.agg #[.int .i64 x.f, .int .i64 x.t, .bool x.fin, .int .i64 x.sent, .int .i64 x.tx, .bool x.sk, .bool x.lo, .bool x.ag, .int .i64 x.gv, .int .i64 x.ga, .int .i64 x.fa, .bool x.idl], .pointer (some ⟨Bu, 0, none⟩)] w fun e w' => e = .returned (.bool (goneB una x)) ∧ w' = w.alloc (.cells #[.int .i64 x.f, .int .i64 x.t, .bool x.fin, .int .i64 x.sent, .int .i64 x.tx, .bool x.sk, .bool x.lo, .bool x.ag, .int .i64 x.gv, .int .i64 x.ga, .int .i64 x.fa, .bool x.idl] 28) := by
  obtain ⟨f, t, fin, sent, tx, sk, lo, ag, gv, ga, fa, idl⟩ := x
  simp only [goneB]
  have hu1 : (w.alloc (.cells #[.int .i64 f, .int .i64 t, .bool fin, .int .i64 sent, .int .i64 tx, .bool sk, .bool lo, .bool ag, .int .i64 gv, .int .i64 ga, .int .i64 fa, .bool idl] 28)).cell? ⟨Bu, 0, none⟩ = some (.int .i64 una) := ((below_new w _).cell (p := ⟨Bu, 0, none⟩) (lt_of_cell hu)).trans hu
  clear hu
  go_enter Try.func40, Try.ntmps40
  go_wp2
  go_ret
  exact ⟨rfl, rfl⟩
end Go.Proofs.Ytokiklaffbdomaa
