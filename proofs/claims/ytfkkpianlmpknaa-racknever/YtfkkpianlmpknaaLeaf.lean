/- The contracts of isTime, isKept, fits, isOnItsWay, isAhead and of the document's. -/
import Derived.Test.YtfkkpianlmpknaaApp
namespace Go.Proofs.Ytfkkpianlmpknaa
open Go.ChangeShapes Go.WideShapes Go.ChangeAt Go.RowKit Go.Shelf
set_option linter.unusedVariables false
set_option linter.unusedSimpArgs false
attribute [local go_sem] Oper.semAt_some

set_option maxRecDepth 100000 in
set_option maxHeartbeats 4000000 in
theorem isTime_is (n : Int) (b : Bool) (h : tmB n = b) (w : World) : Calls Try.prog 28 #[.int .i64 n] w fun e w' => e = .returned (.bool b) ∧ w' = w := by
  subst h
  unfold tmB
  by_cases h1 : 0 ≤ n
  · go_enter Try.func28, Try.ntmps28
    go_wp2
    all_goals go_ret
    all_goals (refine ⟨ret_bool ?_, rfl⟩; rw [Bool.eq_iff_iff]; simp; omega)
  · go_enter Try.func28, Try.ntmps28
    go_wp2
    all_goals go_ret
    all_goals (refine ⟨ret_bool ?_, rfl⟩; rw [Bool.eq_iff_iff]; simp; omega)
set_option maxRecDepth 100000 in
set_option maxHeartbeats 4000000 in
theorem isKept_is (n : Int) (b : Bool) (h : ofB n = b) (w : World) : Calls Try.prog 32 #[.int .i64 n] w fun e w' => e = .returned (.bool b) ∧ w' = w := by
  subst h
  unfold ofB
  by_cases h1 : 0 ≤ n
  · go_enter Try.func32, Try.ntmps32
    go_wp2
    all_goals go_ret
    all_goals (refine ⟨ret_bool ?_, rfl⟩; rw [Bool.eq_iff_iff]; simp; omega)
  · go_enter Try.func32, Try.ntmps32
    go_wp2
    all_goals go_ret
    all_goals (refine ⟨ret_bool ?_, rfl⟩; rw [Bool.eq_iff_iff]; simp; omega)
set_option maxRecDepth 100000 in
set_option maxHeartbeats 4000000 in
theorem refTime_is (n : Int) (b : Bool) (h : tmB n = b) (w : World) : Calls Try.prog 30 #[.int .i64 n] w fun e w' => e = .returned (.bool b) ∧ w' = w := by
  subst h
  unfold tmB
  by_cases h1 : 0 ≤ n
  · go_enter Try.func30, Try.ntmps30
    go_wp2
    all_goals go_ret
    all_goals (refine ⟨ret_bool ?_, rfl⟩; rw [Bool.eq_iff_iff]; simp; omega)
  · go_enter Try.func30, Try.ntmps30
    go_wp2
    all_goals go_ret
    all_goals (refine ⟨ret_bool ?_, rfl⟩; rw [Bool.eq_iff_iff]; simp; omega)
set_option maxRecDepth 100000 in
set_option maxHeartbeats 4000000 in
theorem refOff_is (n : Int) (b : Bool) (h : ofB n = b) (w : World) : Calls Try.prog 33 #[.int .i64 n] w fun e w' => e = .returned (.bool b) ∧ w' = w := by
  subst h
  unfold ofB
  by_cases h1 : 0 ≤ n
  · go_enter Try.func33, Try.ntmps33
    go_wp2
    all_goals go_ret
    all_goals (refine ⟨ret_bool ?_, rfl⟩; rw [Bool.eq_iff_iff]; simp; omega)
  · go_enter Try.func33, Try.ntmps33
    go_wp2
    all_goals go_ret
    all_goals (refine ⟨ret_bool ?_, rfl⟩; rw [Bool.eq_iff_iff]; simp; omega)
set_option maxRecDepth 100000 in
set_option maxHeartbeats 4000000 in
theorem fits_is (x : Rc) (now : Int) (b : Bool) (h : recB x now = b) (w : World) : Calls Try.prog 29 #[.agg #[.int .i64 x.f, .int .i64 x.t, .bool x.fin, .int .i64 x.sent, .int .i64 x.tx, .bool x.sk, .bool x.lo, .bool x.ag, .int .i64 x.gv, .int .i64 x.ga, .int .i64 x.fa, .bool x.idl], .int .i64 now] w fun e w' => e = .returned (.bool b) ∧ Below w.heap.size w w' := by
  obtain ⟨xf, xt, xn, xs, xx, xk, xl, xa, xg, xh, xj, xi⟩ := x
  simp only
  have HB : Hid (Below w.heap.size w (w.alloc (.cells #[.int .i64 xf, .int .i64 xt, .bool xn, .int .i64 xs, .int .i64 xx, .bool xk, .bool xl, .bool xa, .int .i64 xg, .int .i64 xh, .int .i64 xj, .bool xi] 25))) := below_new w _
  simp only [recB] at h
  cases e1 : ofB xf with
  | false =>
    have c1 := isKept_is xf false e1
    rw [e1] at h
    simp at h
    subst h
    clear e1
    go_enter Try.func29, Try.ntmps29
    go_wp2_with fail
    refine (c1 _).mono ?_
    rintro e w' ⟨rfl, rfl⟩
    go_wp2_with fail
    go_ret
    exact ⟨rfl, HB.out⟩
  | true =>
    have c1 := isKept_is xf true e1
    rw [e1] at h
    cases e2 : ofB xt with
    | false =>
      have c2 := isKept_is xt false e2
      rw [e2] at h
      simp at h
      subst h
      clear e1 e2
      go_enter Try.func29, Try.ntmps29
      go_wp2_with fail
      refine (c1 _).mono ?_
      rintro e w' ⟨rfl, rfl⟩
      go_wp2_with fail
      refine (c2 _).mono ?_
      rintro e w' ⟨rfl, rfl⟩
      go_wp2_with fail
      go_ret
      exact ⟨rfl, HB.out⟩
    | true =>
      have c2 := isKept_is xt true e2
      rw [e2] at h
      have HH : Hid (decide (0 ≤ xs ∧ xs ≤ now ∧ 1 ≤ xx) = b) := by simpa [Hid] using h
      clear h e1 e2
      by_cases h1 : 0 ≤ xs
      · by_cases h2 : xs ≤ now
        · go_enter Try.func29, Try.ntmps29
          go_wp2_with fail
          refine (c1 _).mono ?_
          rintro e w' ⟨rfl, rfl⟩
          go_wp2_with fail
          refine (c2 _).mono ?_
          rintro e w' ⟨rfl, rfl⟩
          go_wp2_with fail
          all_goals go_ret
          all_goals (refine ⟨ret_bool ?_, HB.out⟩; rw [← HH.out, Bool.eq_iff_iff]; simp; omega)
        · go_enter Try.func29, Try.ntmps29
          go_wp2_with fail
          refine (c1 _).mono ?_
          rintro e w' ⟨rfl, rfl⟩
          go_wp2_with fail
          refine (c2 _).mono ?_
          rintro e w' ⟨rfl, rfl⟩
          go_wp2_with fail
          all_goals go_ret
          all_goals (refine ⟨ret_bool ?_, HB.out⟩; rw [← HH.out, Bool.eq_iff_iff]; simp; omega)
      · go_enter Try.func29, Try.ntmps29
        go_wp2_with fail
        refine (c1 _).mono ?_
        rintro e w' ⟨rfl, rfl⟩
        go_wp2_with fail
        refine (c2 _).mono ?_
        rintro e w' ⟨rfl, rfl⟩
        go_wp2_with fail
        all_goals go_ret
        all_goals (refine ⟨ret_bool ?_, HB.out⟩; rw [← HH.out, Bool.eq_iff_iff]; simp; omega)
set_option maxRecDepth 100000 in
set_option maxHeartbeats 4000000 in
theorem rec_is (x : Rc) (now : Int) (b : Bool) (h : recB x now = b) (w : World) : Calls Try.prog 31 #[.agg #[.int .i64 x.f, .int .i64 x.t, .bool x.fin, .int .i64 x.sent, .int .i64 x.tx, .bool x.sk, .bool x.lo, .bool x.ag, .int .i64 x.gv, .int .i64 x.ga, .int .i64 x.fa, .bool x.idl], .int .i64 now] w fun e w' => e = .returned (.bool b) ∧ Below w.heap.size w w' := by
  obtain ⟨xf, xt, xn, xs, xx, xk, xl, xa, xg, xh, xj, xi⟩ := x
  simp only
  have HB : Hid (Below w.heap.size w (w.alloc (.cells #[.int .i64 xf, .int .i64 xt, .bool xn, .int .i64 xs, .int .i64 xx, .bool xk, .bool xl, .bool xa, .int .i64 xg, .int .i64 xh, .int .i64 xj, .bool xi] 25))) := below_new w _
  simp only [recB] at h
  cases e1 : ofB xf with
  | false =>
    have c1 := refOff_is xf false e1
    rw [e1] at h
    simp at h
    subst h
    clear e1
    go_enter Try.func31, Try.ntmps31
    go_wp2_with fail
    refine (c1 _).mono ?_
    rintro e w' ⟨rfl, rfl⟩
    go_wp2_with fail
    go_ret
    exact ⟨rfl, HB.out⟩
  | true =>
    have c1 := refOff_is xf true e1
    rw [e1] at h
    cases e2 : ofB xt with
    | false =>
      have c2 := refOff_is xt false e2
      rw [e2] at h
      simp at h
      subst h
      clear e1 e2
      go_enter Try.func31, Try.ntmps31
      go_wp2_with fail
      refine (c1 _).mono ?_
      rintro e w' ⟨rfl, rfl⟩
      go_wp2_with fail
      refine (c2 _).mono ?_
      rintro e w' ⟨rfl, rfl⟩
      go_wp2_with fail
      go_ret
      exact ⟨rfl, HB.out⟩
    | true =>
      have c2 := refOff_is xt true e2
      rw [e2] at h
      have HH : Hid (decide (0 ≤ xs ∧ xs ≤ now ∧ 1 ≤ xx) = b) := by simpa [Hid] using h
      clear h e1 e2
      by_cases h1 : 0 ≤ xs
      · by_cases h2 : xs ≤ now
        · go_enter Try.func31, Try.ntmps31
          go_wp2_with fail
          refine (c1 _).mono ?_
          rintro e w' ⟨rfl, rfl⟩
          go_wp2_with fail
          refine (c2 _).mono ?_
          rintro e w' ⟨rfl, rfl⟩
          go_wp2_with fail
          all_goals go_ret
          all_goals (refine ⟨ret_bool ?_, HB.out⟩; rw [← HH.out, Bool.eq_iff_iff]; simp; omega)
        · go_enter Try.func31, Try.ntmps31
          go_wp2_with fail
          refine (c1 _).mono ?_
          rintro e w' ⟨rfl, rfl⟩
          go_wp2_with fail
          refine (c2 _).mono ?_
          rintro e w' ⟨rfl, rfl⟩
          go_wp2_with fail
          all_goals go_ret
          all_goals (refine ⟨ret_bool ?_, HB.out⟩; rw [← HH.out, Bool.eq_iff_iff]; simp; omega)
      · go_enter Try.func31, Try.ntmps31
        go_wp2_with fail
        refine (c1 _).mono ?_
        rintro e w' ⟨rfl, rfl⟩
        go_wp2_with fail
        refine (c2 _).mono ?_
        rintro e w' ⟨rfl, rfl⟩
        go_wp2_with fail
        all_goals go_ret
        all_goals (refine ⟨ret_bool ?_, HB.out⟩; rw [← HH.out, Bool.eq_iff_iff]; simp; omega)
set_option maxRecDepth 100000 in
set_option maxHeartbeats 4000000 in
theorem isAhead_is (ks ke kr : Int) (kn : Bool) (kf km ko kl : Int) (x : Rc) (b : Bool) (h : ahB ⟨ks, ke, kr, kn, kf, km, ko, kl⟩ x = b) (w : World) : Calls Try.prog 38 #[.agg #[.int .i64 ks, .int .i64 ke, .int .i64 kr, .bool kn, .int .i64 kf, .int .i64 km, .int .i64 ko, .int .i64 kl], .agg #[.int .i64 x.f, .int .i64 x.t, .bool x.fin, .int .i64 x.sent, .int .i64 x.tx, .bool x.sk, .bool x.lo, .bool x.ag, .int .i64 x.gv, .int .i64 x.ga, .int .i64 x.fa, .bool x.idl]] w fun e w' => e = .returned (.bool b) ∧ Below w.heap.size w w' := by
  obtain ⟨xf, xt, xn, xs, xx, xk, xl, xa, xg, xh, xj, xi⟩ := x
  simp only
  have HB : Hid (Below w.heap.size w ((w.alloc (.cells #[.int .i64 ks, .int .i64 ke, .int .i64 kr, .bool kn, .int .i64 kf, .int .i64 km, .int .i64 ko, .int .i64 kl] 23)).alloc (.cells #[.int .i64 xf, .int .i64 xt, .bool xn, .int .i64 xs, .int .i64 xx, .bool xk, .bool xl, .bool xa, .int .i64 xg, .int .i64 xh, .int .i64 xj, .bool xi] 25))) := below_more (below_new w _) _
  have HH : Hid (decide (xs < ks ∨ (xs = ks ∧ xt < ke)) = b) := h
  clear h
  rcases (show xs < ks ∨ xs = ks ∨ ks < xs by omega) with h1 | h1 | h1
  · skip
    go_enter Try.func38, Try.ntmps38
    go_wp2_with fail
    all_goals go_ret
    all_goals (refine ⟨ret_bool ?_, HB.out⟩; rw [← HH.out, Bool.eq_iff_iff]; first | (simp; done) | (simp; omega))
  · skip
    subst h1
    go_enter Try.func38, Try.ntmps38
    go_wp2_with fail
    all_goals go_ret
    all_goals (refine ⟨ret_bool ?_, HB.out⟩; rw [← HH.out, Bool.eq_iff_iff]; first | (simp; done) | (simp; omega))
  · skip
    have h2 : decide (xs < ks) = false := by simp; omega
    have h3 : (xs == ks) = false := by simp; omega
    have h4 : decide (xs = ks) = false := by simp; omega
    go_enter Try.func38, Try.ntmps38
    go_wp2_with fail
    all_goals go_ret
    all_goals (refine ⟨ret_bool ?_, HB.out⟩; rw [← HH.out, Bool.eq_iff_iff]; first | (simp; done) | (simp; omega))
set_option maxRecDepth 100000 in
set_option maxHeartbeats 4000000 in
theorem ahead_is (ks ke kr : Int) (kn : Bool) (kf km ko kl : Int) (x : Rc) (b : Bool) (h : ahB ⟨ks, ke, kr, kn, kf, km, ko, kl⟩ x = b) (w : World) : Calls Try.prog 39 #[.agg #[.int .i64 ks, .int .i64 ke, .int .i64 kr, .bool kn, .int .i64 kf, .int .i64 km, .int .i64 ko, .int .i64 kl], .agg #[.int .i64 x.f, .int .i64 x.t, .bool x.fin, .int .i64 x.sent, .int .i64 x.tx, .bool x.sk, .bool x.lo, .bool x.ag, .int .i64 x.gv, .int .i64 x.ga, .int .i64 x.fa, .bool x.idl]] w fun e w' => e = .returned (.bool b) ∧ Below w.heap.size w w' := by
  obtain ⟨xf, xt, xn, xs, xx, xk, xl, xa, xg, xh, xj, xi⟩ := x
  simp only
  have HB : Hid (Below w.heap.size w ((w.alloc (.cells #[.int .i64 ks, .int .i64 ke, .int .i64 kr, .bool kn, .int .i64 kf, .int .i64 km, .int .i64 ko, .int .i64 kl] 23)).alloc (.cells #[.int .i64 xf, .int .i64 xt, .bool xn, .int .i64 xs, .int .i64 xx, .bool xk, .bool xl, .bool xa, .int .i64 xg, .int .i64 xh, .int .i64 xj, .bool xi] 25))) := below_more (below_new w _) _
  have HH : Hid (decide (xs < ks ∨ (xs = ks ∧ xt < ke)) = b) := h
  clear h
  rcases (show xs < ks ∨ xs = ks ∨ ks < xs by omega) with h1 | h1 | h1
  · skip
    go_enter Try.func39, Try.ntmps39
    go_wp2_with fail
    all_goals go_ret
    all_goals (refine ⟨ret_bool ?_, HB.out⟩; rw [← HH.out, Bool.eq_iff_iff]; first | (simp; done) | (simp; omega))
  · skip
    subst h1
    go_enter Try.func39, Try.ntmps39
    go_wp2_with fail
    all_goals go_ret
    all_goals (refine ⟨ret_bool ?_, HB.out⟩; rw [← HH.out, Bool.eq_iff_iff]; first | (simp; done) | (simp; omega))
  · skip
    have h2 : decide (xs < ks) = false := by simp; omega
    have h3 : (xs == ks) = false := by simp; omega
    have h4 : decide (xs = ks) = false := by simp; omega
    go_enter Try.func39, Try.ntmps39
    go_wp2_with fail
    all_goals go_ret
    all_goals (refine ⟨ret_bool ?_, HB.out⟩; rw [← HH.out, Bool.eq_iff_iff]; first | (simp; done) | (simp; omega))
set_option maxRecDepth 100000 in
set_option maxHeartbeats 4000000 in
theorem onWay_is (x : Rc) (b : Bool) (h : onB x = b) (w : World) : Calls Try.prog 37 #[.agg #[.int .i64 x.f, .int .i64 x.t, .bool x.fin, .int .i64 x.sent, .int .i64 x.tx, .bool x.sk, .bool x.lo, .bool x.ag, .int .i64 x.gv, .int .i64 x.ga, .int .i64 x.fa, .bool x.idl]] w fun e w' => e = .returned (.bool b) ∧ Below w.heap.size w w' := by
  obtain ⟨xf, xt, xn, xs, xx, xk, xl, xa, xg, xh, xj, xi⟩ := x
  simp only
  have HB : Hid (Below w.heap.size w (w.alloc (.cells #[.int .i64 xf, .int .i64 xt, .bool xn, .int .i64 xs, .int .i64 xx, .bool xk, .bool xl, .bool xa, .int .i64 xg, .int .i64 xh, .int .i64 xj, .bool xi] 25))) := below_new w _
  subst h
  cases xk <;> cases xl <;> cases xa <;>
  · go_enter Try.func37, Try.ntmps37
    go_wp2_with fail
    go_ret
    exact ⟨rfl, HB.out⟩
end Go.Proofs.Ytfkkpianlmpknaa
