/- The contracts of all calls. -/
import Derived.Test.YtikcjdoeoghoeaaCalls
import Derived.Test.YtikcjdoeoghoeaaCheck
import Derived.Test.YtikcjdoeoghoeaaNew
namespace Go.Proofs.Ytikcjdoeoghoeaa
open Go.ChangeShapes Go.WideShapes Go.ChangeAt Go.RowKit
set_option linter.unusedVariables false


def bgE (c : Cc) (n : Int) : Int := if okB c = true then if szB n = true then 0 else 2 else 230
theorem bg_cases (c : Cc) (n : Int) : (okB c = true ∧ szB n = true ∧ bgE c n = 0) ∨ ((okB c && szB n) = false ∧ ((bgE c n) == 0) = false ∧ (bgE c n = 2 ∨ bgE c n = 230)) := by
  unfold bgE
  cases h1 : okB c <;> cases h2 : szB n <;> simp
theorem begin_no (c : Cc) (n : Int) (hI : CcI c) (h : (okB c && szB n) = false) (w : World) : Calls Try.prog 55 #[ccv c, .int .i64 n] w fun e w' => e = .returned (.tuple #[ccv zC, .int .i64 (bgE c n)]) ∧ Below w.heap.size w w' := by
  unfold bgE
  cases k : okB c with
  | false => rw [if_neg (by simp)]; exact bgn_no c n (fun W => chk_no c hI k W) w
  | true =>
    cases k2 : szB n with
    | false => rw [if_pos rfl, if_neg (by simp)]; exact bgn_arg c n (fun W => chk_yes c k W) (fun W => size_is n k2 W) w
    | true => rw [k, k2] at h; simp at h
theorem begin_yes (c : Cc) (n : Int) (k : okB c = true) (k2 : szB n = true) (w : World) : Calls Try.prog 55 #[ccv c, .int .i64 n] w fun e w' => e = .returned (.tuple #[ccv (rn c.ms c.cw c.ss c.ac), .int .i64 0]) ∧ Below w.heap.size w w' := by
  rw [← (ok_is k).1]
  exact bgn_yes c n (fun W => chk_yes c k W) (fun W => size_is n k2 W) w
/-- What a call answers: a controller that may be, or nothing. -/
def ansR (c : Cc) (n : Int) (r : Cc) : Cc := if (okB c && szB n) = true then r else zC
def lossR (c : Cc) (n : Int) : Cc := ansR c n (rn c.ms c.cw (halfI n c.ms) 0)
def timeR (c : Cc) (n : Int) : Cc := ansR c n (rn c.ms c.ms (halfI n c.ms) 0)
def doneR (c : Cc) : Cc := ansR c 0 (rn c.ms c.ss c.ss c.ac)
def ackR (c : Cc) (n : Int) (i : Bool) : Cc := ansR c n (if i = true then rn c.ms c.cw c.ss c.ac else rn c.ms (grwC c n) c.ss (grwA c n))
theorem sz_out {n : Int} (k : szB n = true) : 0 ≤ n ∧ n ≤ 1073741824 := of_decide_eq_true k
theorem ack_is (c : Cc) (n : Int) (i : Bool) (hI : CcI c) (w : World) : Calls Try.prog 49 #[ccv c, .int .i64 n, .bool i] w fun e w' => e = .returned (.tuple #[ccv (ackR c n i), .int .i64 (bgE c n)]) ∧ Below w.heap.size w w' := by
  unfold ackR ansR
  rcases bg_cases c n with ⟨k, k2, e⟩ | ⟨k, e, _⟩
  · rw [e, if_pos (by simp [k, k2])]
    have h := (ok_is k).2
    cases i with
    | true => rw [if_pos rfl]; exact ack_idle c _ n (fun W => begin_yes c n k k2 W) w
    | false =>
      rw [if_neg (by simp)]
      exact ack_ok c (rn c.ms c.cw c.ss c.ac) _ n (fun W => begin_yes c n k k2 W) (fun g W hb => grow_is _ g n W hb (sz_out k2) (by show 0 ≤ c.ac ∧ c.ac ≤ 1073741824; omega) h.1 (by show 0 ≤ c.cw ∧ c.cw ≤ 1073741824; omega)) w
  · rw [if_neg (by simp [k])]
    exact ack_bad c zC n _ i e (fun W => begin_no c n hI k W) w
end Go.Proofs.Ytikcjdoeoghoeaa
