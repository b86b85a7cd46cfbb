/- The contracts of the document's own answers to package seq. -/
import Derived.Test.YtndgplogedcacaaLeaf
namespace Go.Proofs.Ytndgplogedcacaa
open Go.ChangeShapes Go.WideShapes Go.ChangeAt Go.RowKit
set_option linter.unusedVariables false

theorem rdiff_walk (a b : Int) (ha : 0 ≤ a ∧ a ≤ 4294967295) (hb : 0 ≤ b ∧ b ≤ 4294967295) (w : World) :
    Calls Try.prog 10 #[.int .u32 a, .int .u32 b] w fun e w' => e = .returned (.int .i64 (diffI a b)) ∧ w' = w := by
  go_enter Try.func10, Try.ntmps10
  go_wp2
  all_goals (go_ret; refine ⟨ret_int ?_, rfl⟩; unfold diffI; omega)

theorem rless_walk (a b : Int) (ha : 0 ≤ a ∧ a ≤ 4294967295) (hb : 0 ≤ b ∧ b ≤ 4294967295) (w : World) :
    Calls Try.prog 12 #[.int .u32 a, .int .u32 b] w fun e w' => e = .returned (.bool (lessB a b)) ∧ w' = w := by
  go_enter Try.func12, Try.ntmps12
  go_wp2_with (go_at_call 10; refine (rdiff_walk _ _ ha hb _).mono ?_; rintro e w' ⟨rfl, rfl⟩)
  go_ret
  exact ⟨rfl, rfl⟩

theorem mod_walk (n : Int) (hn : -9223372036854775808 ≤ n ∧ n ≤ 9223372036854775807) (w : World) :
    Calls Try.prog 28 #[.int .i64 n] w fun e w' => e = .returned (.int .i64 (modI n)) ∧ w' = w := by
  have htm : n.tmod 4294967296 = if 0 ≤ n then n % 4294967296 else -((-n) % 4294967296) := by
    split
    · rw [Int.tmod_eq_emod_of_nonneg (by omega)]
    · have h : n.tmod 4294967296 = -((-n).tmod 4294967296) := by rw [Int.neg_tmod]; omega
      rw [h, Int.tmod_eq_emod_of_nonneg (by omega)]
  by_cases hs : 0 ≤ n
  · go_enter Try.func28, Try.ntmps28
    go_wp2
    all_goals (go_ret; refine ⟨ret_int ?_, rfl⟩; unfold modI; try omega)
  · obtain ⟨m, hm⟩ : ∃ m, n.tmod 4294967296 = m := ⟨_, rfl⟩
    rw [if_neg hs] at htm
    have hm2 : -4294967296 < m ∧ m ≤ 0 := by omega
    have H : Hid (m = -(-n % 4294967296)) := by rw [← hm, htm]; exact rfl
    clear htm
    go_enter Try.func28, Try.ntmps28
    go_wp2
    all_goals (go_ret; refine ⟨ret_int ?_, rfl⟩; have := H.out; unfold modI; omega)

theorem radd_walk (a n : Int) (ha : 0 ≤ a ∧ a ≤ 4294967295) (hn : -9223372036854775808 ≤ n ∧ n ≤ 9223372036854775807) (w : World) :
    Calls Try.prog 16 #[.int .u32 a, .int .i64 n] w fun e w' => e = .returned (.int .u32 (addI a n)) ∧ w' = w := by
  have hm := mod_bd n
  have hm2 := mod_bd (a + modI n)
  go_enter Try.func16, Try.ntmps16
  go_wp2_with fail
  refine (mod_walk _ hn _).mono ?_
  rintro e w' ⟨rfl, rfl⟩
  go_wp2_with fail
  refine (mod_walk _ (by omega) _).mono ?_
  rintro e w' ⟨rfl, rfl⟩
  go_wp2
  go_ret
  refine ⟨ret_int ?_, rfl⟩
  unfold addI modI
  omega

theorem rwithin_walk (x low n : Int) (hx : 0 ≤ x ∧ x ≤ 4294967295) (hl : 0 ≤ low ∧ low ≤ 4294967295) (hn : 0 ≤ n ∧ n ≤ 4294967295) (w : World) :
    Calls Try.prog 14 #[.int .u32 x, .int .u32 low, .int .u32 n] w fun e w' => e = .returned (.bool (withinB x low n)) ∧ w' = w := by
  go_enter Try.func14, Try.ntmps14
  go_wp2_with (go_at_call 28; refine (mod_walk _ (by omega) _).mono ?_; rintro e w' ⟨rfl, rfl⟩)
  go_ret
  exact ⟨rfl, rfl⟩

theorem rsum_walk (a b : Int) (ha : -9223372036854775808 ≤ a ∧ a ≤ 9223372036854775807) (hb : -9223372036854775808 ≤ b ∧ b ≤ 9223372036854775807) (w : World) :
    Calls Try.prog 21 #[.int .i64 a, .int .i64 b] w fun e w' => e = .returned (.int .i64 (sumI a b)) ∧ w' = w := by
  go_enter Try.func21, Try.ntmps21
  go_wp2
  all_goals go_ret
  all_goals (refine ⟨ret_int ?_, rfl⟩; unfold sumI; first | omega | (split <;> (try split) <;> omega))

theorem rclamp_walk (x low high : Int) (w : World) :
    Calls Try.prog 23 #[.int .i64 x, .int .i64 low, .int .i64 high] w fun e w' => e = .returned (.int .i64 (clampI x low high)) ∧ w' = w := by
  go_enter Try.func23, Try.ntmps23
  go_wp2
  all_goals go_ret
  all_goals (refine ⟨ret_int ?_, rfl⟩; unfold clampI; first | omega | (split <;> (try split) <;> (try split) <;> omega))

theorem runwrap_walk (a b : Int) (ha : -9223372036854775808 ≤ a ∧ a ≤ 9223372036854775807) (hb : 0 ≤ b ∧ b ≤ 4294967295) (w : World) :
    Calls Try.prog 19 #[.int .i64 a, .int .u32 b] w fun e w' => e = .returned (.int .i64 (unwrapI a b)) ∧ w' = w := by
  have hm := mod_bd a
  have hd := diff_bd (modI a) b
  go_enter Try.func19, Try.ntmps19
  go_wp2_with (first | (go_at_call 28; refine (mod_walk _ ha _).mono ?_; rintro e w' ⟨rfl, rfl⟩) | (go_at_call 10; refine (rdiff_walk (modI a) _ (mod_bd a) hb _).mono ?_; rintro e w' ⟨rfl, rfl⟩) | (go_at_call 21; refine (rsum_walk _ (diffI (modI a) b) ha (by omega) _).mono ?_; rintro e w' ⟨rfl, rfl⟩))
  go_ret
  exact ⟨rfl, rfl⟩
end Go.Proofs.Ytndgplogedcacaa
