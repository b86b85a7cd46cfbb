/- The contracts of Check and Usable, and of the document's. -/
import Derived.Test.YtmfbcdjedegofaaBase
namespace Go.Proofs.Ytmfbcdjedegofaa
open Go.ChangeShapes Go.WideShapes Go.ChangeAt Go.RowKit
set_option linter.unusedVariables false


set_option maxRecDepth 100000 in
set_option maxHeartbeats 4000000 in
theorem chk_any (nx en : Int) (cl fi : Bool) (ed un ms rm mo : Int) (na fo : Bool) (w : World) (hI : Ints nx en ed un ms rm mo) :
    Calls Try.prog 10 #[.agg #[.int .i64 nx, .int .i64 en, .bool cl, .bool fi, .int .i64 ed, .int .i64 un, .int .i64 ms, .int .i64 rm, .int .i64 mo, .bool na, .bool fo]] w fun e w' => e = .returned (.int .i64 (chkI nx en cl fi ed un ms mo)) ∧ Below w.heap.size w w' := by
  unfold Ints I64 at hI
  have HB : Hid (Below w.heap.size w (w.alloc (.cells #[.int .i64 nx, .int .i64 en, .bool cl, .bool fi, .int .i64 ed, .int .i64 un, .int .i64 ms, .int .i64 rm, .int .i64 mo, .bool na, .bool fo] 23))) := below_more (Below.refl _ _) _
  cases cl <;> cases fi
  all_goals (go_enter Try.func10, Try.ntmps10; go_wp2)
  all_goals go_ret
  all_goals (refine ⟨ret_int ?_, HB.out⟩; unfold chkI okW; simp only [decide_eq_true_eq]; first | (split <;> omega) | (simp_all <;> omega))
theorem chk_is (nx en : Int) (cl fi : Bool) (ed un ms rm mo : Int) (na fo : Bool) (w : World) (hI : Ints nx en ed un ms rm mo) (r : Int) (hr : chkI nx en cl fi ed un ms mo = r) :
    Calls Try.prog 10 #[.agg #[.int .i64 nx, .int .i64 en, .bool cl, .bool fi, .int .i64 ed, .int .i64 un, .int .i64 ms, .int .i64 rm, .int .i64 mo, .bool na, .bool fo]] w fun e w' => e = .returned (.int .i64 r) ∧ Below w.heap.size w w' := by
  subst hr; exact chk_any nx en cl fi ed un ms rm mo na fo w hI

set_option maxRecDepth 100000 in
set_option maxHeartbeats 4000000 in
theorem refChk_any (nx en : Int) (cl fi : Bool) (ed un ms rm mo : Int) (na fo : Bool) (w : World) (hI : Ints nx en ed un ms rm mo) :
    Calls Try.prog 11 #[.agg #[.int .i64 nx, .int .i64 en, .bool cl, .bool fi, .int .i64 ed, .int .i64 un, .int .i64 ms, .int .i64 rm, .int .i64 mo, .bool na, .bool fo]] w fun e w' => e = .returned (.int .i64 (chkI nx en cl fi ed un ms mo)) ∧ Below w.heap.size w w' := by
  unfold Ints I64 at hI
  have HB : Hid (Below w.heap.size w (w.alloc (.cells #[.int .i64 nx, .int .i64 en, .bool cl, .bool fi, .int .i64 ed, .int .i64 un, .int .i64 ms, .int .i64 rm, .int .i64 mo, .bool na, .bool fo] 23))) := below_more (Below.refl _ _) _
  cases cl <;> cases fi
  all_goals (go_enter Try.func11, Try.ntmps11; go_wp2)
  all_goals go_ret
  all_goals (refine ⟨ret_int ?_, HB.out⟩; unfold chkI okW; simp only [decide_eq_true_eq]; first | (split <;> omega) | (simp_all <;> omega))
theorem refChk_is (nx en : Int) (cl fi : Bool) (ed un ms rm mo : Int) (na fo : Bool) (w : World) (hI : Ints nx en ed un ms rm mo) (r : Int) (hr : chkI nx en cl fi ed un ms mo = r) :
    Calls Try.prog 11 #[.agg #[.int .i64 nx, .int .i64 en, .bool cl, .bool fi, .int .i64 ed, .int .i64 un, .int .i64 ms, .int .i64 rm, .int .i64 mo, .bool na, .bool fo]] w fun e w' => e = .returned (.int .i64 r) ∧ Below w.heap.size w w' := by
  subst hr; exact refChk_any nx en cl fi ed un ms rm mo na fo w hI

set_option maxRecDepth 100000 in
set_option maxHeartbeats 4000000 in
theorem use_any (nx en : Int) (cl fi : Bool) (ed un ms rm mo : Int) (na fo : Bool) (w : World) (hI : Ints nx en ed un ms rm mo) :
    Calls Try.prog 12 #[.agg #[.int .i64 nx, .int .i64 en, .bool cl, .bool fi, .int .i64 ed, .int .i64 un, .int .i64 ms, .int .i64 rm, .int .i64 mo, .bool na, .bool fo]] w fun e w' => e = .returned (.int .i64 (useI nx en cl fi ed un ms mo)) ∧ Below w.heap.size w w' := by
  have hX := BoxW.new w (.int .i64 nx) (.int .i64 en) (.bool cl) (.bool fi) (.int .i64 ed) (.int .i64 un) (.int .i64 ms) (.int .i64 rm) (.int .i64 mo) (.bool na) (.bool fo)
  have b0 := below_more (Below.refl _ w) (.cells #[.int .i64 nx, .int .i64 en, .bool cl, .bool fi, .int .i64 ed, .int .i64 un, .int .i64 ms, .int .i64 rm, .int .i64 mo, .bool na, .bool fo] 23)
  have HB : Hid (Below w.heap.size w (w.alloc (.cells #[.int .i64 nx, .int .i64 en, .bool cl, .bool fi, .int .i64 ed, .int .i64 un, .int .i64 ms, .int .i64 rm, .int .i64 mo, .bool na, .bool fo] 23))) := b0
  cases h : okW nx en cl fi ed un ms mo with
  | false =>
    have c1 := chk_is nx en cl fi ed un ms rm mo na fo (w.alloc (.cells #[.int .i64 nx, .int .i64 en, .bool cl, .bool fi, .int .i64 ed, .int .i64 un, .int .i64 ms, .int .i64 rm, .int .i64 mo, .bool na, .bool fo] 23)) hI 2 (by rw [chkI, if_neg (by rw [h]; simp)])
    rw [show useI nx en cl fi ed un ms mo = 0 from by rw [useI, if_neg (by rw [h]; simp)]]
    clear hX b0 h hI
    go_enter Try.func12, Try.ntmps12
    go_wp2_with fail
    refine c1.mono ?_
    rintro e w1 ⟨rfl, hB1⟩
    go_wp2_with fail
    go_ret
    exact ⟨rfl, Below.on HB.out hB1⟩
  | true =>
    have c1 := chk_is nx en cl fi ed un ms rm mo na fo (w.alloc (.cells #[.int .i64 nx, .int .i64 en, .bool cl, .bool fi, .int .i64 ed, .int .i64 un, .int .i64 ms, .int .i64 rm, .int .i64 mo, .bool na, .bool fo] 23)) hI 0 (by rw [chkI, if_pos h])
    rw [show useI nx en cl fi ed un ms mo = max 0 (ed - nx) from by rw [useI, if_pos h]]
    have HX : Hid (BoxW (w.alloc (.cells #[.int .i64 nx, .int .i64 en, .bool cl, .bool fi, .int .i64 ed, .int .i64 un, .int .i64 ms, .int .i64 rm, .int .i64 mo, .bool na, .bool fo] 23)) w.heap.size (.int .i64 nx) (.int .i64 en) (.bool cl) (.bool fi) (.int .i64 ed) (.int .i64 un) (.int .i64 ms) (.int .i64 rm) (.int .i64 mo) (.bool na) (.bool fo)) := hX
    have hh := ok_out h
    clear hX b0 h hI
    go_enter Try.func12, Try.ntmps12
    go_wp2_with fail
    refine c1.mono ?_
    rintro e w1 ⟨rfl, hB1⟩
    obtain ⟨k0, k1, k2, k3, k4, k5, k6, k7, k8, k9, k10⟩ := (HX.out.later hB1).cells
    go_wp2
    all_goals go_ret
    all_goals exact ⟨ret_int (by omega), Below.on HB.out hB1⟩
theorem use_is (nx en : Int) (cl fi : Bool) (ed un ms rm mo : Int) (na fo : Bool) (w : World) (hI : Ints nx en ed un ms rm mo) (r : Int) (hr : useI nx en cl fi ed un ms mo = r) :
    Calls Try.prog 12 #[.agg #[.int .i64 nx, .int .i64 en, .bool cl, .bool fi, .int .i64 ed, .int .i64 un, .int .i64 ms, .int .i64 rm, .int .i64 mo, .bool na, .bool fo]] w fun e w' => e = .returned (.int .i64 r) ∧ Below w.heap.size w w' := by
  subst hr; exact use_any nx en cl fi ed un ms rm mo na fo w hI

set_option maxRecDepth 100000 in
set_option maxHeartbeats 4000000 in
theorem refUse_any (nx en : Int) (cl fi : Bool) (ed un ms rm mo : Int) (na fo : Bool) (w : World) (hI : Ints nx en ed un ms rm mo) :
    Calls Try.prog 13 #[.agg #[.int .i64 nx, .int .i64 en, .bool cl, .bool fi, .int .i64 ed, .int .i64 un, .int .i64 ms, .int .i64 rm, .int .i64 mo, .bool na, .bool fo]] w fun e w' => e = .returned (.int .i64 (useI nx en cl fi ed un ms mo)) ∧ Below w.heap.size w w' := by
  have hX := BoxW.new w (.int .i64 nx) (.int .i64 en) (.bool cl) (.bool fi) (.int .i64 ed) (.int .i64 un) (.int .i64 ms) (.int .i64 rm) (.int .i64 mo) (.bool na) (.bool fo)
  have b0 := below_more (Below.refl _ w) (.cells #[.int .i64 nx, .int .i64 en, .bool cl, .bool fi, .int .i64 ed, .int .i64 un, .int .i64 ms, .int .i64 rm, .int .i64 mo, .bool na, .bool fo] 23)
  have HB : Hid (Below w.heap.size w (w.alloc (.cells #[.int .i64 nx, .int .i64 en, .bool cl, .bool fi, .int .i64 ed, .int .i64 un, .int .i64 ms, .int .i64 rm, .int .i64 mo, .bool na, .bool fo] 23))) := b0
  cases h : okW nx en cl fi ed un ms mo with
  | false =>
    have c1 := refChk_is nx en cl fi ed un ms rm mo na fo (w.alloc (.cells #[.int .i64 nx, .int .i64 en, .bool cl, .bool fi, .int .i64 ed, .int .i64 un, .int .i64 ms, .int .i64 rm, .int .i64 mo, .bool na, .bool fo] 23)) hI 2 (by rw [chkI, if_neg (by rw [h]; simp)])
    rw [show useI nx en cl fi ed un ms mo = 0 from by rw [useI, if_neg (by rw [h]; simp)]]
    clear hX b0 h hI
    go_enter Try.func13, Try.ntmps13
    go_wp2_with fail
    refine c1.mono ?_
    rintro e w1 ⟨rfl, hB1⟩
    go_wp2_with fail
    go_ret
    exact ⟨rfl, Below.on HB.out hB1⟩
  | true =>
    have c1 := refChk_is nx en cl fi ed un ms rm mo na fo (w.alloc (.cells #[.int .i64 nx, .int .i64 en, .bool cl, .bool fi, .int .i64 ed, .int .i64 un, .int .i64 ms, .int .i64 rm, .int .i64 mo, .bool na, .bool fo] 23)) hI 0 (by rw [chkI, if_pos h])
    rw [show useI nx en cl fi ed un ms mo = max 0 (ed - nx) from by rw [useI, if_pos h]]
    have HX : Hid (BoxW (w.alloc (.cells #[.int .i64 nx, .int .i64 en, .bool cl, .bool fi, .int .i64 ed, .int .i64 un, .int .i64 ms, .int .i64 rm, .int .i64 mo, .bool na, .bool fo] 23)) w.heap.size (.int .i64 nx) (.int .i64 en) (.bool cl) (.bool fi) (.int .i64 ed) (.int .i64 un) (.int .i64 ms) (.int .i64 rm) (.int .i64 mo) (.bool na) (.bool fo)) := hX
    have hh := ok_out h
    clear hX b0 h hI
    go_enter Try.func13, Try.ntmps13
    go_wp2_with fail
    refine c1.mono ?_
    rintro e w1 ⟨rfl, hB1⟩
    obtain ⟨k0, k1, k2, k3, k4, k5, k6, k7, k8, k9, k10⟩ := (HX.out.later hB1).cells
    go_wp2
    all_goals go_ret
    all_goals exact ⟨ret_int (by omega), Below.on HB.out hB1⟩
theorem refUse_is (nx en : Int) (cl fi : Bool) (ed un ms rm mo : Int) (na fo : Bool) (w : World) (hI : Ints nx en ed un ms rm mo) (r : Int) (hr : useI nx en cl fi ed un ms mo = r) :
    Calls Try.prog 13 #[.agg #[.int .i64 nx, .int .i64 en, .bool cl, .bool fi, .int .i64 ed, .int .i64 un, .int .i64 ms, .int .i64 rm, .int .i64 mo, .bool na, .bool fo]] w fun e w' => e = .returned (.int .i64 r) ∧ Below w.heap.size w w' := by
  subst hr; exact refUse_any nx en cl fi ed un ms rm mo na fo w hI
end Go.Proofs.Ytmfbcdjedegofaa
