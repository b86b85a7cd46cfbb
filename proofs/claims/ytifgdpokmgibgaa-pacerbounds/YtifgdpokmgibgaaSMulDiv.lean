/- The contract of seq.MulDiv. -/
import Derived.Test.YtifgdpokmgibgaaSDiv
import Derived.BigQuiet
import Derived.Deep.QuietTactic
namespace Go.Proofs.Ytifgdpokmgibgaa
open Go.ChangeShapes Go.WideShapes Go.ChangeAt Go.RowKit
set_option linter.unusedVariables false

theorem div0_walk (lo y : Int) (h1 : 1 ≤ y) (hy : y < 18446744073709551616) (hl : 0 ≤ lo ∧ lo < 18446744073709551616) (w : World) :
    Calls Try.prog 32 #[.int .u64 0, .int .u64 lo, .int .u64 y] w fun e w' => (∃ r, e = .returned (.tuple #[.int .u64 (lo / y), .int .u64 r])) ∧ ∃ n, w' = w.drewN n := by
  have hq0 : 0 ≤ lo / y := Int.ediv_nonneg hl.1 (by omega)
  have hq1 : lo / y ≤ lo := Int.ediv_le_self _ hl.1
  go_enter Try.func32, Try.ntmps32
  go_wp2
  go_quiet (fail)
  go_wp2
  go_ret2
  exact ⟨⟨_, rfl⟩, _, rfl⟩

set_option maxHeartbeats 400000 in
theorem muldiv_walk (a b c : Int) (ha : -9223372036854775808 ≤ a ∧ a ≤ 9223372036854775807) (hb : -9223372036854775808 ≤ b ∧ b ≤ 9223372036854775807) (hc : -9223372036854775808 ≤ c ∧ c ≤ 9223372036854775807) (w : World) :
    Calls Try.prog 23 #[.int .i64 a, .int .i64 b, .int .i64 c] w fun e w' => e = .returned (.tuple #[.int .i64 (mulDivI a b c), .int .i64 (mulDivE a b c)]) ∧ ∃ n, w' = w.drewN n := by
  by_cases c1 : a < 0
  · go_enter Try.func23, Try.ntmps23
    go_wp2
    go_ret2
    refine ⟨ret_two ?_ ?_, 0, rfl⟩
    · unfold mulDivI; rw [if_pos (by omega)]
    · unfold mulDivE; rw [if_pos (by omega)]
  by_cases c2 : b < 0
  · go_enter Try.func23, Try.ntmps23
    go_wp2
    go_ret2
    refine ⟨ret_two ?_ ?_, 0, rfl⟩
    · unfold mulDivI; rw [if_pos (by omega)]
    · unfold mulDivE; rw [if_pos (by omega)]
  by_cases c3 : c ≤ 0
  · go_enter Try.func23, Try.ntmps23
    go_wp2
    go_ret2
    refine ⟨ret_two ?_ ?_, 0, rfl⟩
    · unfold mulDivI; rw [if_pos (by omega)]
    · unfold mulDivE; rw [if_pos (by omega)]
  have hp : 0 ≤ a * b := Int.mul_nonneg (by omega) (by omega)
  have eI : mulDivI a b c = if 9223372036854775807 < a * b / c then 9223372036854775807 else a * b / c := by unfold mulDivI; rw [if_neg (by omega)]
  have eE : mulDivE a b c = 0 := by unfold mulDivE; rw [if_neg (by omega)]
  have HI : Hid (mulDivI a b c = if 9223372036854775807 < a * b / c then 9223372036854775807 else a * b / c) := eI
  have HE : Hid (mulDivE a b c = 0) := eE
  clear eI eE
  obtain ⟨hi, hhi⟩ : ∃ hi, a * b / 18446744073709551616 = hi := ⟨_, rfl⟩
  obtain ⟨lo, hlo⟩ : ∃ lo, a * b % 18446744073709551616 = lo := ⟨_, rfl⟩
  have hs : a * b = hi * 18446744073709551616 + lo := by omega
  have hl : 0 ≤ lo ∧ lo < 18446744073709551616 := by omega
  have h0 : 0 ≤ hi := by omega
  have HS : Hid (a * b = hi * 18446744073709551616 + lo) := hs
  have hm : ∀ w, Calls Try.prog 31 #[.int .u64 a, .int .u64 b] w fun e w' => e = .returned (.tuple #[.int .u64 hi, .int .u64 lo]) ∧ w' = w := by
    intro w
    have := mul_walk a b (by omega) (by omega) w
    rw [hhi, hlo] at this
    exact this
  clear hhi hlo hs hp
  by_cases c4 : c ≤ hi
  · go_enter Try.func23, Try.ntmps23
    go_wp2_with (go_at_call 31; refine (hm _).mono ?_; rintro e w' ⟨rfl, rfl⟩)
    go_ret2
    refine ⟨ret_two ?_ HE.out.symm, 0, rfl⟩
    rw [HI.out, if_pos]
    have : 9223372036854775808 ≤ a * b / c := by
      refine Int.le_ediv_of_mul_le (by omega) ?_
      rw [HS.out]; omega
    omega
  · by_cases c5 : hi = 0
    · subst c5
      have hq : Hid (a * b / c = lo / c) := by have := HS.out; unfold Hid; rw [this]; congr 1; omega
      have q0 : 0 ≤ lo / c := Int.ediv_nonneg hl.1 (by omega)
      go_enter Try.func23, Try.ntmps23
      go_wp2_with (first | (go_at_call 31; refine (hm _).mono ?_; rintro e w' ⟨rfl, rfl⟩) | (go_at_call 32; refine (div0_walk lo c (by omega) (by omega) hl _).mono ?_; rintro e w' ⟨⟨r, rfl⟩, nn, rfl⟩))
      all_goals go_ret2
      all_goals (refine ⟨ret_two ?_ HE.out.symm, nn, rfl⟩; rw [HI.out, hq.out]; split <;> omega)
    · obtain ⟨Q, hQ⟩ : ∃ Q, (hi * 18446744073709551616 + lo) / c = Q := ⟨_, rfl⟩
      have hq : Hid (a * b / c = Q) := by have := HS.out; unfold Hid; rw [this, hQ]
      have q0 : 0 ≤ Q := by rw [← hQ]; exact Int.ediv_nonneg (by omega) (by omega)
      have hv : ∀ w, Calls Try.prog 32 #[.int .u64 hi, .int .u64 lo, .int .u64 c] w fun e w' => (∃ r, e = .returned (.tuple #[.int .u64 Q, .int .u64 r])) ∧ w' = w := by
        intro w
        have := div_walk hi lo c (by omega) (by omega) (by omega) hl w
        rw [hQ] at this
        exact this
      clear hQ
      go_enter Try.func23, Try.ntmps23
      go_wp2_with (first | (go_at_call 31; refine (hm _).mono ?_; rintro e w' ⟨rfl, rfl⟩) | (go_at_call 32; refine (hv _).mono ?_; rintro e w' ⟨⟨r, rfl⟩, rfl⟩))
      all_goals go_ret2
      all_goals (refine ⟨ret_two ?_ HE.out.symm, 0, rfl⟩; rw [HI.out, hq.out]; split <;> omega)
end Go.Proofs.Ytifgdpokmgibgaa
