/- The document's sequence numbers. -/
import Derived.Test.YtkigcdmlkmcdcaaZ
import Derived.Test.YtkigcdmlkmcdcaaMSpansW
namespace Go.Proofs.Ytkigcdmlkmcdcaa
open Go.ChangeShapes Go.WideShapes Go.ChangeAt Go.RowKit
set_option linter.unusedVariables false
set_option linter.unusedSimpArgs false

theorem zfa (n : Int) (hn : -9223372036854775808 ≤ n ∧ n ≤ 9223372036854775807) (w : World) :
 Calls Try.prog 67 #[.int .i64 n] w fun e w' => e = .returned (.int .i64 (n % 4294967296)) ∧ w' = w := by
 have htm : n.tmod 4294967296 = if 0 ≤ n then n % 4294967296 else -((-n) % 4294967296) := by
  split
  · rw [Int.tmod_eq_emod_of_nonneg (by omega)]
  · have h : n.tmod 4294967296 = -((-n).tmod 4294967296) := by rw [Int.neg_tmod]; omega
    rw [h, Int.tmod_eq_emod_of_nonneg (by omega)]
 by_cases hs : 0 ≤ n
 · go_enter Try.func67, Try.ntmps67
   go_wp2
   all_goals (go_ret; refine ⟨zbe ?_, rfl⟩; try omega)
 · obtain ⟨m, hm⟩ : ∃ m, n.tmod 4294967296 = m := ⟨_, rfl⟩
   rw [if_neg hs] at htm
   have hm2 : -4294967296 < m ∧ m ≤ 0 := by omega
   have H : Hid (m = -(-n % 4294967296)) := by rw [← hm, htm]; exact rfl
   clear htm
   go_enter Try.func67, Try.ntmps67
   go_wp2
   all_goals (go_ret; refine ⟨zbe ?_, rfl⟩; have := H.out; omega)
theorem zds (a n : Int) (ha : 0 ≤ a ∧ a ≤ 4294967295) (hn : -9223372036854775808 ≤ n ∧ n ≤ 9223372036854775807) (w : World) :
 Calls Try.prog 38 #[.int .u32 a, .int .i64 n] w fun e w' => e = .returned (.int .u32 (Pl.adI a n)) ∧ w' = w := by
 have hm : 0 ≤ n % 4294967296 ∧ n % 4294967296 < 4294967296 := by omega
 have hm2 : 0 ≤ (a + n % 4294967296) % 4294967296 ∧ (a + n % 4294967296) % 4294967296 < 4294967296 := by omega
 go_enter Try.func38, Try.ntmps38
 go_wp2_with fail
 refine (zfa _ hn _).mono ?_
 rintro e w' ⟨rfl, rfl⟩
 go_wp2_with fail
 refine (zfa _ (by omega) _).mono ?_
 rintro e w' ⟨rfl, rfl⟩
 go_wp2
 go_ret
 refine ⟨zbe ?_, rfl⟩
 unfold Pl.adI
 omega
end Go.Proofs.Ytkigcdmlkmcdcaa

