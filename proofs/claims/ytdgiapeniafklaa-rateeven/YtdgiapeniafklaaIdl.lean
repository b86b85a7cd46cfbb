/- The contracts of Idle, whole. -/
import Derived.Test.YtdgiapeniafklaaIdle
import Derived.Test.YtdgiapeniafklaaRefIdle
namespace Go.Proofs.Ytdgiapeniafklaa
open Go.ChangeShapes Go.WideShapes Go.ChangeAt Go.RowKit Go.Shelf
set_option linter.unusedVariables false
set_option linter.unusedSimpArgs false
attribute [local go_sem] Oper.semAt_some


theorem idl_is (q : Rt) (pipe : Int) {Q : Rt} (hQ : idlQ q pipe = Q) {r : Int} (hr : idlE q pipe = r) (w : World) :
    Calls Try.prog 10 #[agv (rtL q), .int .i64 pipe] w fun e w' => e = .returned (.tuple #[agv (rtL Q), .int .i64 r]) ∧ Below w.heap.size w w' := by
  subst hQ; subst hr
  unfold idlQ idlE
  cases k : okQ q with
  | false => simp only [Bool.false_eq_true, if_false]; exact idl_no q pipe (fun W => chk_is q (by unfold chkE; rw [if_neg (by simp [k])]) W) w
  | true =>
  have c1 := fun W => chk_is q (r := 0) (by unfold chkE; rw [if_pos k]) W
  have hq := (ok_out k).1
  cases k2 : szB pipe with
  | false =>
    simp only [Bool.false_eq_true, if_false, if_true]
    have hn := of_decide_eq_false k2
    by_cases h : pipe < 0
    · exact idl_a q pipe h c1 w
    · exact idl_b q pipe (by omega) c1 w
  | true =>
    simp only [if_true]
    have hp := of_decide_eq_true k2
    exact idl_y q pipe hp hq _ _ rfl (by omega) c1 w

theorem ridl_is (q : Rt) (pipe : Int) {Q : Rt} (hQ : idlQ q pipe = Q) {r : Int} (hr : idlE q pipe = r) (w : World) :
    Calls Try.prog 16 #[agv (rtL q), .int .i64 pipe] w fun e w' => e = .returned (.tuple #[agv (rtL Q), .int .i64 r]) ∧ Below w.heap.size w w' := by
  subst hQ; subst hr
  unfold idlQ idlE
  cases k : okQ q with
  | false => simp only [Bool.false_eq_true, if_false]; exact ridl_no q pipe (fun W => rchk_is q (by unfold chkE; rw [if_neg (by simp [k])]) W) w
  | true =>
  have c1 := fun W => rchk_is q (r := 0) (by unfold chkE; rw [if_pos k]) W
  have hq := (ok_out k).1
  cases k2 : szB pipe with
  | false =>
    simp only [Bool.false_eq_true, if_false, if_true]
    have hn := of_decide_eq_false k2
    by_cases h : pipe < 0
    · exact ridl_a q pipe h c1 w
    · exact ridl_b q pipe (by omega) c1 w
  | true =>
    simp only [if_true]
    have hp := of_decide_eq_true k2
    exact ridl_y q pipe hp hq _ _ rfl (by omega) c1 w
end Go.Proofs.Ytdgiapeniafklaa
