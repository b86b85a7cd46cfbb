/- The contract of Given. -/
import Derived.Test.YtfkkpianlmpknaaGiv1
import Derived.Test.YtfkkpianlmpknaaGiv2
import Derived.Test.YtfkkpianlmpknaaGiv3
namespace Go.Proofs.Ytfkkpianlmpknaa
open Go.ChangeShapes Go.WideShapes Go.ChangeAt Go.RowKit Go.Shelf
set_option linter.unusedVariables false
set_option linter.unusedSimpArgs false
attribute [local go_sem] Oper.semAt_some

theorem given_is (ks ke kr : Int) (kn : Bool) (kf km ko kl : Int) (x : Rc) (now low : Int) (w : World) (a : Rk) (ha : givR ⟨ks, ke, kr, kn, kf, km, ko, kl⟩ x now low = a) (r : Int) (hr : givE ⟨ks, ke, kr, kn, kf, km, ko, kl⟩ x now low = r) : Calls Try.prog 9 #[.agg #[.int .i64 ks, .int .i64 ke, .int .i64 kr, .bool kn, .int .i64 kf, .int .i64 km, .int .i64 ko, .int .i64 kl], .agg #[.int .i64 x.f, .int .i64 x.t, .bool x.fin, .int .i64 x.sent, .int .i64 x.tx, .bool x.sk, .bool x.lo, .bool x.ag, .int .i64 x.gv, .int .i64 x.ga, .int .i64 x.fa, .bool x.idl], .int .i64 now, .int .i64 low] w fun e w' => e = .returned (.tuple #[.agg #[.int .i64 a.s, .int .i64 a.e, .int .i64 a.r, .bool a.n, .int .i64 a.f, .int .i64 a.m, .int .i64 a.o, .int .i64 a.l], .int .i64 r]) ∧ Below w.heap.size w w' := by
  obtain ⟨xf, xt, xn, xs, xx, xk, xl, xa, xg, xh, xj, xi⟩ := x
  unfold givR at ha
  unfold givE at hr
  cases k : okK ⟨ks, ke, kr, kn, kf, km, ko, kl⟩ with
  | false => rw [if_neg (by simp [k])] at ha hr; subst ha; subst hr; exact given_no ks ke kr kn kf km ko kl xf xt xn xs xx xk xl xa xg xh xj xi now low w k
  | true =>
    rw [if_pos k] at ha hr
    unfold argB at ha hr
    cases q1 : tmB now with
    | false => rw [q1] at ha hr; subst ha; subst hr; exact given_now ks ke kr kn kf km ko kl xf xt xn xs xx xk xl xa xg xh xj xi now low w k q1
    | true =>
    cases q2 : tmB low with
    | false => rw [q1, q2] at ha hr; subst ha; subst hr; exact given_low ks ke kr kn kf km ko kl xf xt xn xs xx xk xl xa xg xh xj xi now low w k q1 q2
    | true =>
    cases q3 : recB ⟨xf, xt, xn, xs, xx, xk, xl, xa, xg, xh, xj, xi⟩ now with
    | false => rw [q1, q2, q3] at ha hr; subst ha; subst hr; exact given_rec ks ke kr kn kf km ko kl xf xt xn xs xx xk xl xa xg xh xj xi now low w k q1 q2 q3
    | true =>
    rw [q1, q2, q3] at ha hr
    have hr0 : 0 = r := hr
    have ha0 : given ⟨ks, ke, kr, kn, kf, km, ko, kl⟩ ⟨xf, xt, xn, xs, xx, xk, xl, xa, xg, xh, xj, xi⟩ now low = a := ha
    subst hr0
    clear ha hr
    have h1x := (rec_out q3).2.2.2.2
    simp only at h1x
    by_cases t1 : xx = 1
    · subst t1
      by_cases s1 : xt < kf
      · skip
        rcases (show ks < xs ∨ xs = ks ∨ xs < ks by omega) with u1 | u1 | u1
        · have e : given ⟨ks, ke, kr, kn, kf, km, ko, kl⟩ ⟨xf, xt, xn, xs, 1, xk, xl, xa, xg, xh, xj, xi⟩ now low = ⟨xs, xt, now - xs, seenB ⟨ks, ke, kr, kn, kf, km, ko, kl⟩ ⟨xf, xt, xn, xs, 1, xk, xl, xa, xg, xh, xj, xi⟩, max kf xt, km, ko, kl⟩ := (if_neg (show ¬ ((1 : Int) < 1 ∧ now - xs < low) by omega)).trans (if_pos (show ks < xs ∨ (xs = ks ∧ ke < xt) by omega))
          have es : seenB ⟨ks, ke, kr, kn, kf, km, ko, kl⟩ ⟨xf, xt, xn, xs, 1, xk, xl, xa, xg, xh, xj, xi⟩ = true := by show (kn || decide ((1 : Int) = 1 ∧ xt < kf)) = true; rw [decide_eq_true (by omega), Bool.or_true]
          subst ha0
          rw [e, es]
          exact given_ag ks ke kr kn kf km ko kl xf xt xn xs xk xl xa xg xh xj xi now low w k q1 q2 q3 _ rfl s1 u1
        · obtain rfl := u1.symm
          by_cases u1 : ke < xt
          · have e : given ⟨ks, ke, kr, kn, kf, km, ko, kl⟩ ⟨xf, xt, xn, ks, 1, xk, xl, xa, xg, xh, xj, xi⟩ now low = ⟨ks, xt, now - ks, seenB ⟨ks, ke, kr, kn, kf, km, ko, kl⟩ ⟨xf, xt, xn, ks, 1, xk, xl, xa, xg, xh, xj, xi⟩, max kf xt, km, ko, kl⟩ := (if_neg (show ¬ ((1 : Int) < 1 ∧ now - ks < low) by omega)).trans (if_pos (show ks < ks ∨ (ks = ks ∧ ke < xt) by omega))
            have es : seenB ⟨ks, ke, kr, kn, kf, km, ko, kl⟩ ⟨xf, xt, xn, ks, 1, xk, xl, xa, xg, xh, xj, xi⟩ = true := by show (kn || decide ((1 : Int) = 1 ∧ xt < kf)) = true; rw [decide_eq_true (by omega), Bool.or_true]
            subst ha0
            rw [e, es]
            exact given_ah ks ke kr kn kf km ko kl xf xt xn xk xl xa xg xh xj xi now low w k q1 q2 q3 _ rfl s1 u1
          · have u1 : xt ≤ ke := by omega
            have e : given ⟨ks, ke, kr, kn, kf, km, ko, kl⟩ ⟨xf, xt, xn, ks, 1, xk, xl, xa, xg, xh, xj, xi⟩ now low = ⟨ks, ke, kr, seenB ⟨ks, ke, kr, kn, kf, km, ko, kl⟩ ⟨xf, xt, xn, ks, 1, xk, xl, xa, xg, xh, xj, xi⟩, max kf xt, km, ko, kl⟩ := (if_neg (show ¬ ((1 : Int) < 1 ∧ now - ks < low) by omega)).trans (if_neg (show ¬ (ks < ks ∨ (ks = ks ∧ ke < xt)) by omega))
            have es : seenB ⟨ks, ke, kr, kn, kf, km, ko, kl⟩ ⟨xf, xt, xn, ks, 1, xk, xl, xa, xg, xh, xj, xi⟩ = true := by show (kn || decide ((1 : Int) = 1 ∧ xt < kf)) = true; rw [decide_eq_true (by omega), Bool.or_true]
            subst ha0
            rw [e, es]
            exact given_ai ks ke kr kn kf km ko kl xf xt xn xk xl xa xg xh xj xi now low w k q1 q2 q3 _ rfl s1 u1
        · have e : given ⟨ks, ke, kr, kn, kf, km, ko, kl⟩ ⟨xf, xt, xn, xs, 1, xk, xl, xa, xg, xh, xj, xi⟩ now low = ⟨ks, ke, kr, seenB ⟨ks, ke, kr, kn, kf, km, ko, kl⟩ ⟨xf, xt, xn, xs, 1, xk, xl, xa, xg, xh, xj, xi⟩, max kf xt, km, ko, kl⟩ := (if_neg (show ¬ ((1 : Int) < 1 ∧ now - xs < low) by omega)).trans (if_neg (show ¬ (ks < xs ∨ (xs = ks ∧ ke < xt)) by omega))
          have es : seenB ⟨ks, ke, kr, kn, kf, km, ko, kl⟩ ⟨xf, xt, xn, xs, 1, xk, xl, xa, xg, xh, xj, xi⟩ = true := by show (kn || decide ((1 : Int) = 1 ∧ xt < kf)) = true; rw [decide_eq_true (by omega), Bool.or_true]
          subst ha0
          rw [e, es]
          exact given_aj ks ke kr kn kf km ko kl xf xt xn xs xk xl xa xg xh xj xi now low w k q1 q2 q3 _ rfl s1 u1
      · have s1 : kf ≤ xt := by omega
        rcases (show ks < xs ∨ xs = ks ∨ xs < ks by omega) with u1 | u1 | u1
        · have e : given ⟨ks, ke, kr, kn, kf, km, ko, kl⟩ ⟨xf, xt, xn, xs, 1, xk, xl, xa, xg, xh, xj, xi⟩ now low = ⟨xs, xt, now - xs, seenB ⟨ks, ke, kr, kn, kf, km, ko, kl⟩ ⟨xf, xt, xn, xs, 1, xk, xl, xa, xg, xh, xj, xi⟩, max kf xt, km, ko, kl⟩ := (if_neg (show ¬ ((1 : Int) < 1 ∧ now - xs < low) by omega)).trans (if_pos (show ks < xs ∨ (xs = ks ∧ ke < xt) by omega))
          have es : seenB ⟨ks, ke, kr, kn, kf, km, ko, kl⟩ ⟨xf, xt, xn, xs, 1, xk, xl, xa, xg, xh, xj, xi⟩ = kn := by show (kn || decide ((1 : Int) = 1 ∧ xt < kf)) = kn; rw [decide_eq_false (by omega), Bool.or_false]
          subst ha0
          rw [e, es]
          exact given_bg ks ke kr kn kf km ko kl xf xt xn xs xk xl xa xg xh xj xi now low w k q1 q2 q3 _ rfl s1 u1
        · obtain rfl := u1.symm
          by_cases u1 : ke < xt
          · have e : given ⟨ks, ke, kr, kn, kf, km, ko, kl⟩ ⟨xf, xt, xn, ks, 1, xk, xl, xa, xg, xh, xj, xi⟩ now low = ⟨ks, xt, now - ks, seenB ⟨ks, ke, kr, kn, kf, km, ko, kl⟩ ⟨xf, xt, xn, ks, 1, xk, xl, xa, xg, xh, xj, xi⟩, max kf xt, km, ko, kl⟩ := (if_neg (show ¬ ((1 : Int) < 1 ∧ now - ks < low) by omega)).trans (if_pos (show ks < ks ∨ (ks = ks ∧ ke < xt) by omega))
            have es : seenB ⟨ks, ke, kr, kn, kf, km, ko, kl⟩ ⟨xf, xt, xn, ks, 1, xk, xl, xa, xg, xh, xj, xi⟩ = kn := by show (kn || decide ((1 : Int) = 1 ∧ xt < kf)) = kn; rw [decide_eq_false (by omega), Bool.or_false]
            subst ha0
            rw [e, es]
            exact given_bh ks ke kr kn kf km ko kl xf xt xn xk xl xa xg xh xj xi now low w k q1 q2 q3 _ rfl s1 u1
          · have u1 : xt ≤ ke := by omega
            have e : given ⟨ks, ke, kr, kn, kf, km, ko, kl⟩ ⟨xf, xt, xn, ks, 1, xk, xl, xa, xg, xh, xj, xi⟩ now low = ⟨ks, ke, kr, seenB ⟨ks, ke, kr, kn, kf, km, ko, kl⟩ ⟨xf, xt, xn, ks, 1, xk, xl, xa, xg, xh, xj, xi⟩, max kf xt, km, ko, kl⟩ := (if_neg (show ¬ ((1 : Int) < 1 ∧ now - ks < low) by omega)).trans (if_neg (show ¬ (ks < ks ∨ (ks = ks ∧ ke < xt)) by omega))
            have es : seenB ⟨ks, ke, kr, kn, kf, km, ko, kl⟩ ⟨xf, xt, xn, ks, 1, xk, xl, xa, xg, xh, xj, xi⟩ = kn := by show (kn || decide ((1 : Int) = 1 ∧ xt < kf)) = kn; rw [decide_eq_false (by omega), Bool.or_false]
            subst ha0
            rw [e, es]
            exact given_bi ks ke kr kn kf km ko kl xf xt xn xk xl xa xg xh xj xi now low w k q1 q2 q3 _ rfl s1 u1
        · have e : given ⟨ks, ke, kr, kn, kf, km, ko, kl⟩ ⟨xf, xt, xn, xs, 1, xk, xl, xa, xg, xh, xj, xi⟩ now low = ⟨ks, ke, kr, seenB ⟨ks, ke, kr, kn, kf, km, ko, kl⟩ ⟨xf, xt, xn, xs, 1, xk, xl, xa, xg, xh, xj, xi⟩, max kf xt, km, ko, kl⟩ := (if_neg (show ¬ ((1 : Int) < 1 ∧ now - xs < low) by omega)).trans (if_neg (show ¬ (ks < xs ∨ (xs = ks ∧ ke < xt)) by omega))
          have es : seenB ⟨ks, ke, kr, kn, kf, km, ko, kl⟩ ⟨xf, xt, xn, xs, 1, xk, xl, xa, xg, xh, xj, xi⟩ = kn := by show (kn || decide ((1 : Int) = 1 ∧ xt < kf)) = kn; rw [decide_eq_false (by omega), Bool.or_false]
          subst ha0
          rw [e, es]
          exact given_bj ks ke kr kn kf km ko kl xf xt xn xs xk xl xa xg xh xj xi now low w k q1 q2 q3 _ rfl s1 u1
    · have s1 : 1 < xx := by omega
      by_cases e1 : now - xs < low
      · have e : given ⟨ks, ke, kr, kn, kf, km, ko, kl⟩ ⟨xf, xt, xn, xs, xx, xk, xl, xa, xg, xh, xj, xi⟩ now low = ⟨ks, ke, kr, seenB ⟨ks, ke, kr, kn, kf, km, ko, kl⟩ ⟨xf, xt, xn, xs, xx, xk, xl, xa, xg, xh, xj, xi⟩, max kf xt, km, ko, kl⟩ := if_pos (show (1 : Int) < xx ∧ now - xs < low by omega)
        have es : seenB ⟨ks, ke, kr, kn, kf, km, ko, kl⟩ ⟨xf, xt, xn, xs, xx, xk, xl, xa, xg, xh, xj, xi⟩ = kn := by show (kn || decide ((xx : Int) = 1 ∧ xt < kf)) = kn; rw [decide_eq_false (by omega), Bool.or_false]
        subst ha0
        rw [e, es]
        exact given_ce ks ke kr kn kf km ko kl xf xt xn xs xx xk xl xa xg xh xj xi now low w k q1 q2 q3 _ rfl s1 e1
      · have e1 : low ≤ now - xs := by omega
        rcases (show ks < xs ∨ xs = ks ∨ xs < ks by omega) with u1 | u1 | u1
        · have e : given ⟨ks, ke, kr, kn, kf, km, ko, kl⟩ ⟨xf, xt, xn, xs, xx, xk, xl, xa, xg, xh, xj, xi⟩ now low = ⟨xs, xt, now - xs, seenB ⟨ks, ke, kr, kn, kf, km, ko, kl⟩ ⟨xf, xt, xn, xs, xx, xk, xl, xa, xg, xh, xj, xi⟩, max kf xt, km, ko, kl⟩ := (if_neg (show ¬ ((1 : Int) < xx ∧ now - xs < low) by omega)).trans (if_pos (show ks < xs ∨ (xs = ks ∧ ke < xt) by omega))
          have es : seenB ⟨ks, ke, kr, kn, kf, km, ko, kl⟩ ⟨xf, xt, xn, xs, xx, xk, xl, xa, xg, xh, xj, xi⟩ = kn := by show (kn || decide ((xx : Int) = 1 ∧ xt < kf)) = kn; rw [decide_eq_false (by omega), Bool.or_false]
          subst ha0
          rw [e, es]
          exact given_cg ks ke kr kn kf km ko kl xf xt xn xs xx xk xl xa xg xh xj xi now low w k q1 q2 q3 _ rfl s1 e1 u1
        · obtain rfl := u1.symm
          by_cases u1 : ke < xt
          · have e : given ⟨ks, ke, kr, kn, kf, km, ko, kl⟩ ⟨xf, xt, xn, ks, xx, xk, xl, xa, xg, xh, xj, xi⟩ now low = ⟨ks, xt, now - ks, seenB ⟨ks, ke, kr, kn, kf, km, ko, kl⟩ ⟨xf, xt, xn, ks, xx, xk, xl, xa, xg, xh, xj, xi⟩, max kf xt, km, ko, kl⟩ := (if_neg (show ¬ ((1 : Int) < xx ∧ now - ks < low) by omega)).trans (if_pos (show ks < ks ∨ (ks = ks ∧ ke < xt) by omega))
            have es : seenB ⟨ks, ke, kr, kn, kf, km, ko, kl⟩ ⟨xf, xt, xn, ks, xx, xk, xl, xa, xg, xh, xj, xi⟩ = kn := by show (kn || decide ((xx : Int) = 1 ∧ xt < kf)) = kn; rw [decide_eq_false (by omega), Bool.or_false]
            subst ha0
            rw [e, es]
            exact given_ch ks ke kr kn kf km ko kl xf xt xn xx xk xl xa xg xh xj xi now low w k q1 q2 q3 _ rfl s1 e1 u1
          · have u1 : xt ≤ ke := by omega
            have e : given ⟨ks, ke, kr, kn, kf, km, ko, kl⟩ ⟨xf, xt, xn, ks, xx, xk, xl, xa, xg, xh, xj, xi⟩ now low = ⟨ks, ke, kr, seenB ⟨ks, ke, kr, kn, kf, km, ko, kl⟩ ⟨xf, xt, xn, ks, xx, xk, xl, xa, xg, xh, xj, xi⟩, max kf xt, km, ko, kl⟩ := (if_neg (show ¬ ((1 : Int) < xx ∧ now - ks < low) by omega)).trans (if_neg (show ¬ (ks < ks ∨ (ks = ks ∧ ke < xt)) by omega))
            have es : seenB ⟨ks, ke, kr, kn, kf, km, ko, kl⟩ ⟨xf, xt, xn, ks, xx, xk, xl, xa, xg, xh, xj, xi⟩ = kn := by show (kn || decide ((xx : Int) = 1 ∧ xt < kf)) = kn; rw [decide_eq_false (by omega), Bool.or_false]
            subst ha0
            rw [e, es]
            exact given_ci ks ke kr kn kf km ko kl xf xt xn xx xk xl xa xg xh xj xi now low w k q1 q2 q3 _ rfl s1 e1 u1
        · have e : given ⟨ks, ke, kr, kn, kf, km, ko, kl⟩ ⟨xf, xt, xn, xs, xx, xk, xl, xa, xg, xh, xj, xi⟩ now low = ⟨ks, ke, kr, seenB ⟨ks, ke, kr, kn, kf, km, ko, kl⟩ ⟨xf, xt, xn, xs, xx, xk, xl, xa, xg, xh, xj, xi⟩, max kf xt, km, ko, kl⟩ := (if_neg (show ¬ ((1 : Int) < xx ∧ now - xs < low) by omega)).trans (if_neg (show ¬ (ks < xs ∨ (xs = ks ∧ ke < xt)) by omega))
          have es : seenB ⟨ks, ke, kr, kn, kf, km, ko, kl⟩ ⟨xf, xt, xn, xs, xx, xk, xl, xa, xg, xh, xj, xi⟩ = kn := by show (kn || decide ((xx : Int) = 1 ∧ xt < kf)) = kn; rw [decide_eq_false (by omega), Bool.or_false]
          subst ha0
          rw [e, es]
          exact given_cj ks ke kr kn kf km ko kl xf xt xn xs xx xk xl xa xg xh xj xi now low w k q1 q2 q3 _ rfl s1 e1 u1
end Go.Proofs.Ytfkkpianlmpknaa
