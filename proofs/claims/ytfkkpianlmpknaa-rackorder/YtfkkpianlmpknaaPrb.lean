/- The contracts of Probe and New, and of the document's. -/
import Derived.Test.YtfkkpianlmpknaaGiv0
namespace Go.Proofs.Ytfkkpianlmpknaa
open Go.ChangeShapes Go.WideShapes Go.ChangeAt Go.RowKit Go.Shelf
set_option linter.unusedVariables false
set_option linter.unusedSimpArgs false
attribute [local go_sem] Oper.semAt_some

set_option maxRecDepth 100000 in
set_option maxHeartbeats 4000000 in
theorem probe_low (srtt rto : Int) (one : Bool) (w : World) (u : srtt < 1) (m : Int) (hm : min (1000000) rto = m) : Calls Try.prog 22 #[.int .i64 srtt, .int .i64 rto, .bool one] w fun e w' => e = .returned (.int .i64 m) ∧ w' = w := by
  have d0 : decide (srtt < 1) = true := by first | (simp; done) | (simp; omega)
  have d1 : decide (2251799813685248 < srtt) = false := by first | (simp; done) | (simp; omega)
  have hmx := @min2 (1000000) rto m hm
  clear hm
  go_enter Try.func22, Try.ntmps22
  go_wp2_with fail
  go_ret
  exact ⟨rfl, rfl⟩

set_option maxRecDepth 100000 in
set_option maxHeartbeats 4000000 in
theorem probe_far (srtt rto : Int) (one : Bool) (w : World) (u : 2251799813685248 < srtt) : Calls Try.prog 22 #[.int .i64 srtt, .int .i64 rto, .bool one] w fun e w' => e = .returned (.int .i64 rto) ∧ w' = w := by
  have d0 : decide (srtt < 1) = false := by first | (simp; done) | (simp; omega)
  have d1 : decide (2251799813685248 < srtt) = true := by first | (simp; done) | (simp; omega)
  skip
  go_enter Try.func22, Try.ntmps22
  go_wp2_with fail
  go_ret
  exact ⟨rfl, rfl⟩

set_option maxRecDepth 100000 in
set_option maxHeartbeats 4000000 in
theorem probe_one (srtt rto : Int) (w : World) (u : 1 ≤ srtt ∧ srtt ≤ 2251799813685248) (m : Int) (hm : min (2 * srtt + 200000) rto = m) : Calls Try.prog 22 #[.int .i64 srtt, .int .i64 rto, .bool true] w fun e w' => e = .returned (.int .i64 m) ∧ w' = w := by
  have d0 : decide (srtt < 1) = false := by first | (simp; done) | (simp; omega)
  have d1 : decide (2251799813685248 < srtt) = false := by first | (simp; done) | (simp; omega)
  have hmx := @min2 (2 * srtt + 200000) rto m hm
  clear hm
  go_enter Try.func22, Try.ntmps22
  go_wp2_with fail
  go_ret
  exact ⟨rfl, rfl⟩

set_option maxRecDepth 100000 in
set_option maxHeartbeats 4000000 in
theorem probe_two (srtt rto : Int) (w : World) (u : 1 ≤ srtt ∧ srtt ≤ 2251799813685248) (m : Int) (hm : min (2 * srtt) rto = m) : Calls Try.prog 22 #[.int .i64 srtt, .int .i64 rto, .bool false] w fun e w' => e = .returned (.int .i64 m) ∧ w' = w := by
  have d0 : decide (srtt < 1) = false := by first | (simp; done) | (simp; omega)
  have d1 : decide (2251799813685248 < srtt) = false := by first | (simp; done) | (simp; omega)
  have hmx := @min2 (2 * srtt) rto m hm
  clear hm
  go_enter Try.func22, Try.ntmps22
  go_wp2_with fail
  go_ret
  exact ⟨rfl, rfl⟩

theorem probe_is (srtt rto : Int) (one : Bool) (a : Int) (ha : prbI srtt rto one = a) (w : World) : Calls Try.prog 22 #[.int .i64 srtt, .int .i64 rto, .bool one] w fun e w' => e = .returned (.int .i64 a) ∧ w' = w := by
  unfold prbI at ha
  by_cases u : srtt < 1
  · rw [if_pos u] at ha; exact probe_low srtt rto one w u a ha
  · rw [if_neg u] at ha
    by_cases v : 2251799813685248 < srtt
    · rw [if_pos v] at ha; subst ha; exact probe_far srtt rto one w v
    · rw [if_neg v] at ha
      cases one with
      | true => exact probe_one srtt rto w (by omega) a ha
      | false => exact probe_two srtt rto w (by omega) a (by rw [← ha]; simp)

set_option maxRecDepth 100000 in
set_option maxHeartbeats 4000000 in
theorem rprobe_low (srtt rto : Int) (one : Bool) (w : World) (u : srtt < 1) (m : Int) (hm : min (1000000) rto = m) : Calls Try.prog 23 #[.int .i64 srtt, .int .i64 rto, .bool one] w fun e w' => e = .returned (.int .i64 m) ∧ w' = w := by
  have d0 : decide (srtt < 1) = true := by first | (simp; done) | (simp; omega)
  have d1 : decide (2251799813685248 < srtt) = false := by first | (simp; done) | (simp; omega)
  have hmx := @min2 (1000000) rto m hm
  clear hm
  go_enter Try.func23, Try.ntmps23
  go_wp2_with fail
  go_ret
  exact ⟨rfl, rfl⟩

set_option maxRecDepth 100000 in
set_option maxHeartbeats 4000000 in
theorem rprobe_far (srtt rto : Int) (one : Bool) (w : World) (u : 2251799813685248 < srtt) : Calls Try.prog 23 #[.int .i64 srtt, .int .i64 rto, .bool one] w fun e w' => e = .returned (.int .i64 rto) ∧ w' = w := by
  have d0 : decide (srtt < 1) = false := by first | (simp; done) | (simp; omega)
  have d1 : decide (2251799813685248 < srtt) = true := by first | (simp; done) | (simp; omega)
  skip
  go_enter Try.func23, Try.ntmps23
  go_wp2_with fail
  go_ret
  exact ⟨rfl, rfl⟩

set_option maxRecDepth 100000 in
set_option maxHeartbeats 4000000 in
theorem rprobe_one (srtt rto : Int) (w : World) (u : 1 ≤ srtt ∧ srtt ≤ 2251799813685248) (m : Int) (hm : min (2 * srtt + 200000) rto = m) : Calls Try.prog 23 #[.int .i64 srtt, .int .i64 rto, .bool true] w fun e w' => e = .returned (.int .i64 m) ∧ w' = w := by
  have d0 : decide (srtt < 1) = false := by first | (simp; done) | (simp; omega)
  have d1 : decide (2251799813685248 < srtt) = false := by first | (simp; done) | (simp; omega)
  have hmx := @min2 (2 * srtt + 200000) rto m hm
  clear hm
  go_enter Try.func23, Try.ntmps23
  go_wp2_with fail
  go_ret
  exact ⟨rfl, rfl⟩

set_option maxRecDepth 100000 in
set_option maxHeartbeats 4000000 in
theorem rprobe_two (srtt rto : Int) (w : World) (u : 1 ≤ srtt ∧ srtt ≤ 2251799813685248) (m : Int) (hm : min (2 * srtt) rto = m) : Calls Try.prog 23 #[.int .i64 srtt, .int .i64 rto, .bool false] w fun e w' => e = .returned (.int .i64 m) ∧ w' = w := by
  have d0 : decide (srtt < 1) = false := by first | (simp; done) | (simp; omega)
  have d1 : decide (2251799813685248 < srtt) = false := by first | (simp; done) | (simp; omega)
  have hmx := @min2 (2 * srtt) rto m hm
  clear hm
  go_enter Try.func23, Try.ntmps23
  go_wp2_with fail
  go_ret
  exact ⟨rfl, rfl⟩

theorem rprobe_is (srtt rto : Int) (one : Bool) (a : Int) (ha : prbI srtt rto one = a) (w : World) : Calls Try.prog 23 #[.int .i64 srtt, .int .i64 rto, .bool one] w fun e w' => e = .returned (.int .i64 a) ∧ w' = w := by
  unfold prbI at ha
  by_cases u : srtt < 1
  · rw [if_pos u] at ha; exact rprobe_low srtt rto one w u a ha
  · rw [if_neg u] at ha
    by_cases v : 2251799813685248 < srtt
    · rw [if_pos v] at ha; subst ha; exact rprobe_far srtt rto one w v
    · rw [if_neg v] at ha
      cases one with
      | true => exact rprobe_one srtt rto w (by omega) a ha
      | false => exact rprobe_two srtt rto w (by omega) a (by rw [← ha]; simp)

set_option maxRecDepth 100000 in
set_option maxHeartbeats 4000000 in
theorem new_is (w : World) : Calls Try.prog 13 #[] w fun e w' => e = .returned (.agg #[.int .i64 0, .int .i64 0, .int .i64 0, .bool false, .int .i64 0, .int .i64 1, .int .i64 0, .int .i64 0]) ∧ Below w.heap.size w w' := by
  go_enter Try.func13, Try.ntmps13
  go_wp2_with fail
  refine bodyPost_ret (results_K rfl _ _ w.heap.size _ _ _ _ _ _ _ _ rfl (BoxK.new w _ _ _ _ _ _ _ _)) rfl ?_
  exact ⟨rfl, below_more (Below.refl _ _) _⟩

set_option maxRecDepth 100000 in
set_option maxHeartbeats 4000000 in
theorem rnew_is (w : World) : Calls Try.prog 14 #[] w fun e w' => e = .returned (.agg #[.int .i64 0, .int .i64 0, .int .i64 0, .bool false, .int .i64 0, .int .i64 1, .int .i64 0, .int .i64 0]) ∧ Below w.heap.size w w' := by
  go_enter Try.func14, Try.ntmps14
  go_wp2_with fail
  refine bodyPost_ret (results_K rfl _ _ w.heap.size _ _ _ _ _ _ _ _ rfl (BoxK.new w _ _ _ _ _ _ _ _)) rfl ?_
  exact ⟨rfl, below_more (Below.refl _ _) _⟩
end Go.Proofs.Ytfkkpianlmpknaa
