/- The contract of Given. -/
import Derived.Test.YtdfgdnpokjmjhaaGiv0
import Derived.Test.YtdfgdnpokjmjhaaGiv1
import Derived.Test.YtdfgdnpokjmjhaaGiv2
namespace Go.Proofs.Ytdfgdnpokjmjhaa
open Go.ChangeShapes Go.WideShapes Go.ChangeAt Go.RowKit
set_option linter.unusedVariables false


theorem giv_is (g o f : Int) (n p s m : Int) (b : Bool) (w : World) (a : Pr) (ha : givR (⟨g, o, f⟩ : Pr) n p s m = a) (q : Int) (hq : givQ (⟨g, o, f⟩ : Pr) n p s m b = q) (r : Int) (hr : givE (⟨g, o, f⟩ : Pr) n p s m = r) :
    Calls Try.prog 9 #[.agg #[.int .i64 g, .int .i64 o, .int .i64 f], .int .i64 n, .int .i64 p, .int .i64 s, .int .i64 m, .bool b] w fun e w' => e = .returned (.tuple #[.agg #[.int .i64 a.g, .int .i64 a.o, .int .i64 a.f], .int .i64 q, .int .i64 r]) ∧ Below w.heap.size w w' := by
  unfold givR at ha
  unfold givQ at hq
  unfold givE at hr
  cases k : okB (⟨g, o, f⟩ : Pr) with
  | false => rw [if_neg (by simp [k])] at ha hq hr; subst ha; subst hq; subst hr; exact giv_no g o f n p s m b w k
  | true =>
    rw [if_pos k] at ha hq hr
    cases h : argB n p s m with
    | false =>
      rw [if_neg (by simp [h])] at ha hq hr
      subst ha; subst hq; subst hr
      have hg := of_decide_eq_false h
      by_cases h1 : 0 ≤ n ∧ n ≤ 1073741824
      · by_cases h2 : 0 ≤ p ∧ p ≤ 1073741824
        · by_cases h3 : 0 ≤ s ∧ s ≤ 1073741824
          · by_cases h4 : m < 1
            · exact giv_a4 g o f n p s m b w k ⟨h1, h2, h3, h4⟩
            · exact giv_a5 g o f n p s m b w k ⟨h1, h2, h3, by omega⟩
          · exact giv_a3 g o f n p s m b w k ⟨h1, h2, h3⟩
        · exact giv_a2 g o f n p s m b w k ⟨h1, h2⟩
      · exact giv_a1 g o f n p s m b w k h1
    | true =>
      rw [if_pos h] at ha hq hr
      subst ha; subst hq; subst hr
      have hg := of_decide_eq_true h
      by_cases hp : s < p
      · by_cases h0 : o = 0
        · subst h0
          have er : rawI (moreI g n) 0 f n p s m b = upI (moreI g n) s f - 0 := by unfold rawI; rw [if_pos hp]
          have eq : mayI (moreI g n) 0 f n p s m b = max (upI (moreI g n) s f) m := by unfold mayI; rw [if_pos rfl, er]; omega
          rw [eq]
          exact giv_hi0 g f n p s m b w k hg _ rfl hp _ rfl _ rfl
        · have er : rawI (moreI g n) o f n p s m b = upI (moreI g n) s f - o := by unfold rawI; rw [if_pos hp]
          have eq : mayI (moreI g n) o f n p s m b = max (upI (moreI g n) s f - o) 0 := by unfold mayI; rw [if_neg h0, er]
          rw [eq]
          exact giv_hi g o f n p s m b w k hg _ rfl hp _ rfl _ rfl h0 _ rfl
      · by_cases h0 : o = 0
        · subst h0
          have er : rawI (moreI g n) 0 f n p s m b = min (s - p) (owedI (moreI g n) 0 n m b) := by unfold rawI; rw [if_neg hp]
          have eq : mayI (moreI g n) 0 f n p s m b = max (min (s - p) (owedI (moreI g n) 0 n m b)) m := by unfold mayI; rw [if_pos rfl, er]; omega
          rw [eq]
          exact giv_lo0 g f n p s m b w k hg _ rfl (by omega) _ rfl _ rfl _ rfl
        · have er : rawI (moreI g n) o f n p s m b = min (s - p) (owedI (moreI g n) o n m b) := by unfold rawI; rw [if_neg hp]
          have eq : mayI (moreI g n) o f n p s m b = max (min (s - p) (owedI (moreI g n) o n m b)) 0 := by unfold mayI; rw [if_neg h0, er]
          rw [eq]
          exact giv_lo g o f n p s m b w k hg _ rfl (by omega) _ rfl _ rfl h0 _ rfl

theorem chk_is (g o f : Int) (w : World) (r : Int) (hr : chkE (⟨g, o, f⟩ : Pr) = r) : Calls Try.prog 12 #[.agg #[.int .i64 g, .int .i64 o, .int .i64 f]] w fun e w' => e = .returned (.int .i64 r) ∧ Below w.heap.size w w' := by
  unfold chkE at hr
  cases k : okB (⟨g, o, f⟩ : Pr) with
  | false => rw [if_neg (by simp [k])] at hr; subst hr; exact chk_no g o f w k
  | true => rw [if_pos k] at hr; subst hr; exact chk_yes g o f w k
end Go.Proofs.Ytdfgdnpokjmjhaa
