/- The contract of Given. -/
import Derived.Test.YtdgiapeniafklaaGiv1
namespace Go.Proofs.Ytdgiapeniafklaa
open Go.ChangeShapes Go.WideShapes Go.ChangeAt Go.RowKit Go.Shelf
set_option linter.unusedVariables false
set_option linter.unusedSimpArgs false
attribute [local go_sem] Oper.semAt_some


theorem giv_is (q : Rt) (A : Option Addr) (cap : Nat) (ts : List Rc) (now low : Int) (w : World) (hT : RecsAt w A ts) (hI : ∀ x ∈ ts, RcI x) {Q : Rt} (hQ : givQ q ts now low = Q) {S : Sm} (hS : givS q ts now low = S) {r : Int} (hr : givE q ts now low = r) :
    Calls Try.prog 8 #[agv (rtL q), .slice A ts.length cap, .int .i64 now, .int .i64 low] w fun e w' => e = .returned (.tuple #[agv (rtL Q), agv (smL S), .int .i64 r]) ∧ Below w.heap.size w w' := by
  subst hQ; subst hS; subst hr
  unfold givQ givS givE givB
  cases k : okQ q with
  | false => simp only [Bool.false_eq_true, if_false]; exact giv_no q A cap ts now low (fun W => chk_is q (by unfold chkE; rw [if_neg (by simp [k])]) W) w
  | true =>
  have c1 := fun W => chk_is q (r := 0) (by unfold chkE; rw [if_pos k]) W
  cases k1 : tmB now with
  | false => simp only [Bool.false_and, Bool.false_eq_true, if_false, if_true]; exact giv_now q A cap ts now low c1 (fun W => tm_is now k1 W) w
  | true =>
  cases k2 : tmB low with
  | false => simp only [Bool.true_and, Bool.false_and, Bool.false_eq_true, if_false, if_true]; exact giv_low q A cap ts now low c1 (fun W => tm_is now k1 W) (fun W => tm_is low k2 W) w
  | true =>
  refine (giv_run q A cap ts now low w hT hI k k1 k2).mono ?_
  rintro e w' ⟨⟨hb, rfl⟩ | ⟨hb, rfl⟩, hB⟩
  · rw [hb]; exact ⟨rfl, hB⟩
  · rw [hb]; exact ⟨rfl, hB⟩
end Go.Proofs.Ytdgiapeniafklaa
