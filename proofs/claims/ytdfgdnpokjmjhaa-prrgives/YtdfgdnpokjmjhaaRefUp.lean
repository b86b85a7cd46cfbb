/- The contract of the document's up. -/
import Derived.Test.YtdfgdnpokjmjhaaLeaf
import Derived.Test.YtdfgdnpokjmjhaaSMulDiv
import Derived.Test.YtdfgdnpokjmjhaaSRefMul
namespace Go.Proofs.Ytdfgdnpokjmjhaa
open Go.ChangeShapes Go.WideShapes Go.ChangeAt Go.RowKit
set_option linter.unusedVariables false


set_option maxRecDepth 100000 in
set_option maxHeartbeats 4000000 in
theorem up_most (a b c : Int) (w : World) (hb : 0 ≤ a ∧ a ≤ 1125899906842624 ∧ 0 ≤ b ∧ b ≤ 1073741824 ∧ 1 ≤ c ∧ c ≤ 1073741824) (y : Int) (hy : mulDivI a b c = y) (h : y = 9223372036854775807) : Calls Try.prog 22 #[.int .i64 a, .int .i64 b, .int .i64 c] w fun e w' => e = .returned (.int .i64 (9223372036854775807)) ∧ ∃ n, w' = w.drewN n := by
  have c1 : ∀ W, Calls Try.prog 27 #[.int .i64 a, .int .i64 b, .int .i64 c] W fun e w' => e = .returned (.tuple #[.int .i64 y, .int .i64 0]) ∧ ∃ n, w' = W.drewN n := by
    intro W
    have := rmuldiv_walk a b c (by omega) (by omega) (by omega) W
    rw [hy, no_err (by omega) (by omega) (by omega)] at this
    exact this
  have hy2 : 0 ≤ y ∧ y ≤ 9223372036854775807 := by rw [← hy]; exact muldiv_bd (by omega) (by omega) (by omega)
  clear hy
  subst h
  go_enter Try.func22, Try.ntmps22
  go_wp2_with fail
  refine (c1 _).mono ?_
  rintro e w1 ⟨rfl, n, rfl⟩
  clear c1
  go_wp2_with fail
  go_ret
  exact ⟨rfl, n, rfl⟩

set_option maxRecDepth 100000 in
set_option maxHeartbeats 4000000 in
theorem up_same (a b c : Int) (w : World) (hb : 0 ≤ a ∧ a ≤ 1125899906842624 ∧ 0 ≤ b ∧ b ≤ 1073741824 ∧ 1 ≤ c ∧ c ≤ 1073741824) (y : Int) (hy : mulDivI a b c = y) (h0 : y ≠ 9223372036854775807) (h : y * c % 18446744073709551616 = a * b % 18446744073709551616) : Calls Try.prog 22 #[.int .i64 a, .int .i64 b, .int .i64 c] w fun e w' => e = .returned (.int .i64 (y)) ∧ ∃ n, w' = w.drewN n := by
  have c1 : ∀ W, Calls Try.prog 27 #[.int .i64 a, .int .i64 b, .int .i64 c] W fun e w' => e = .returned (.tuple #[.int .i64 y, .int .i64 0]) ∧ ∃ n, w' = W.drewN n := by
    intro W
    have := rmuldiv_walk a b c (by omega) (by omega) (by omega) W
    rw [hy, no_err (by omega) (by omega) (by omega)] at this
    exact this
  have hy2 : 0 ≤ y ∧ y ≤ 9223372036854775807 := by rw [← hy]; exact muldiv_bd (by omega) (by omega) (by omega)
  clear hy
  have u1 : 0 ≤ y * c % 18446744073709551616 ∧ y * c % 18446744073709551616 < 18446744073709551616 := by omega
  obtain ⟨A, hA⟩ : ∃ A, y * c % 18446744073709551616 = A := ⟨_, rfl⟩
  obtain ⟨B, hB⟩ : ∃ B, a * b % 18446744073709551616 = B := ⟨_, rfl⟩
  rw [hA, hB] at h
  have d1 : (y == 9223372036854775807) = false := by simp; omega
  have d2 : (A != B) = false := by simp [h]
  have z1 : IntKind.u64.wrap (y * c) = A := by rw [IntKind.wrap_u64]; exact hA
  have z2 : IntKind.u64.wrap (a * b) = B := by rw [IntKind.wrap_u64]; exact hB
  clear hA hB h u1
  go_enter Try.func22, Try.ntmps22
  go_wp2_with fail
  refine (c1 _).mono ?_
  rintro e w1 ⟨rfl, n, rfl⟩
  clear c1
  go_wp2_with fail
  go_ret
  exact ⟨rfl, n, rfl⟩

set_option maxRecDepth 100000 in
set_option maxHeartbeats 4000000 in
theorem up_more (a b c : Int) (w : World) (hb : 0 ≤ a ∧ a ≤ 1125899906842624 ∧ 0 ≤ b ∧ b ≤ 1073741824 ∧ 1 ≤ c ∧ c ≤ 1073741824) (y : Int) (hy : mulDivI a b c = y) (h0 : y ≠ 9223372036854775807) (h : ¬ y * c % 18446744073709551616 = a * b % 18446744073709551616) : Calls Try.prog 22 #[.int .i64 a, .int .i64 b, .int .i64 c] w fun e w' => e = .returned (.int .i64 (y + 1)) ∧ ∃ n, w' = w.drewN n := by
  have c1 : ∀ W, Calls Try.prog 27 #[.int .i64 a, .int .i64 b, .int .i64 c] W fun e w' => e = .returned (.tuple #[.int .i64 y, .int .i64 0]) ∧ ∃ n, w' = W.drewN n := by
    intro W
    have := rmuldiv_walk a b c (by omega) (by omega) (by omega) W
    rw [hy, no_err (by omega) (by omega) (by omega)] at this
    exact this
  have hy2 : 0 ≤ y ∧ y ≤ 9223372036854775807 := by rw [← hy]; exact muldiv_bd (by omega) (by omega) (by omega)
  clear hy
  have u1 : 0 ≤ y * c % 18446744073709551616 ∧ y * c % 18446744073709551616 < 18446744073709551616 := by omega
  obtain ⟨A, hA⟩ : ∃ A, y * c % 18446744073709551616 = A := ⟨_, rfl⟩
  obtain ⟨B, hB⟩ : ∃ B, a * b % 18446744073709551616 = B := ⟨_, rfl⟩
  rw [hA, hB] at h
  have d1 : (y == 9223372036854775807) = false := by simp; omega
  have d2 : (A != B) = true := by simp [h]
  have z1 : IntKind.u64.wrap (y * c) = A := by rw [IntKind.wrap_u64]; exact hA
  have z2 : IntKind.u64.wrap (a * b) = B := by rw [IntKind.wrap_u64]; exact hB
  clear hA hB h u1
  go_enter Try.func22, Try.ntmps22
  go_wp2_with fail
  refine (c1 _).mono ?_
  rintro e w1 ⟨rfl, n, rfl⟩
  clear c1
  go_wp2_with fail
  go_ret
  exact ⟨rfl, n, rfl⟩

theorem up_is (a b c : Int) (w : World) (hb : 0 ≤ a ∧ a ≤ 1125899906842624 ∧ 0 ≤ b ∧ b ≤ 1073741824 ∧ 1 ≤ c ∧ c ≤ 1073741824) (u : Int) (hu : upI a b c = u) : Calls Try.prog 22 #[.int .i64 a, .int .i64 b, .int .i64 c] w fun e w' => e = .returned (.int .i64 u) ∧ ∃ n, w' = w.drewN n := by
  by_cases h : mulDivI a b c = 9223372036854775807
  · have : upI a b c = 9223372036854775807 := by
      have h0 : 0 ≤ a * b / c := Int.ediv_nonneg (Int.mul_nonneg (by omega) (by omega)) (by omega)
      unfold mulDivI at h; unfold upI; rw [if_neg (by omega)] at h
      by_cases k : 9223372036854775807 < a * b / c
      · rw [if_pos (by omega)]
      · rw [if_neg k] at h; rw [if_pos (by omega)]
    rw [this] at hu; subst hu
    exact up_most a b c w hb _ rfl h
  · obtain ⟨p1, p2⟩ := up_mod (a := a) (b := b) (c := c) (by omega) (by omega) (by omega) h
    by_cases k : mulDivI a b c * c % 18446744073709551616 = a * b % 18446744073709551616
    · rw [p1 k] at hu; subst hu; exact up_same a b c w hb _ rfl h k
    · rw [p2 k] at hu; subst hu; exact up_more a b c w hb _ rfl h k
end Go.Proofs.Ytdfgdnpokjmjhaa
