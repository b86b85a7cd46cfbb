/- The contract of the document's Check. -/
import Derived.Test.YtfkkpianlmpknaaLeaf
namespace Go.Proofs.Ytfkkpianlmpknaa
open Go.ChangeShapes Go.WideShapes Go.ChangeAt Go.RowKit Go.Shelf
set_option linter.unusedVariables false
set_option linter.unusedSimpArgs false
attribute [local go_sem] Oper.semAt_some

set_option maxRecDepth 100000 in
set_option maxHeartbeats 4000000 in
theorem refChk_is (ks ke kr : Int) (kn : Bool) (kf km ko kl : Int) (r : Int) (hr : chkE ⟨ks, ke, kr, kn, kf, km, ko, kl⟩ = r) (w : World) : Calls Try.prog 12 #[.agg #[.int .i64 ks, .int .i64 ke, .int .i64 kr, .bool kn, .int .i64 kf, .int .i64 km, .int .i64 ko, .int .i64 kl]] w fun e w' => e = .returned (.int .i64 r) ∧ Below w.heap.size w w' := by
  have HR : Hid (chkE ⟨ks, ke, kr, kn, kf, km, ko, kl⟩ = r) := hr
  have HB : Hid (Below w.heap.size w (w.alloc (.cells #[.int .i64 ks, .int .i64 ke, .int .i64 kr, .bool kn, .int .i64 kf, .int .i64 km, .int .i64 ko, .int .i64 kl] 23))) := below_new w _
  clear hr
  cases h0 : ofB ks with
  | false =>
    have c0 := refOff_is ks false h0
    have HN : Hid (okK ⟨ks, ke, kr, kn, kf, km, ko, kl⟩ = false) := by simp [Hid, okK, h0]
    clear h0
    go_enter Try.func12, Try.ntmps12
    go_wp2_with fail
    refine (c0 _).mono ?_
    rintro e w' ⟨rfl, rfl⟩
    go_wp2_with fail
    go_ret
    exact ⟨ret_int (by rw [← HR.out, chkE, if_neg (by rw [HN.out]; simp)]), HB.out⟩
  | true =>
    have c0 := refOff_is ks true h0
    cases h1 : ofB ke with
    | false =>
      have c1 := refOff_is ke false h1
      have HN : Hid (okK ⟨ks, ke, kr, kn, kf, km, ko, kl⟩ = false) := by simp [Hid, okK, h1]
      clear h0 h1
      go_enter Try.func12, Try.ntmps12
      go_wp2_with fail
      refine (c0 _).mono ?_
      rintro e w' ⟨rfl, rfl⟩
      go_wp2_with fail
      refine (c1 _).mono ?_
      rintro e w' ⟨rfl, rfl⟩
      go_wp2_with fail
      go_ret
      exact ⟨ret_int (by rw [← HR.out, chkE, if_neg (by rw [HN.out]; simp)]), HB.out⟩
    | true =>
      have c1 := refOff_is ke true h1
      cases h2 : ofB kr with
      | false =>
        have c2 := refOff_is kr false h2
        have HN : Hid (okK ⟨ks, ke, kr, kn, kf, km, ko, kl⟩ = false) := by simp [Hid, okK, h2]
        clear h0 h1 h2
        go_enter Try.func12, Try.ntmps12
        go_wp2_with fail
        refine (c0 _).mono ?_
        rintro e w' ⟨rfl, rfl⟩
        go_wp2_with fail
        refine (c1 _).mono ?_
        rintro e w' ⟨rfl, rfl⟩
        go_wp2_with fail
        refine (c2 _).mono ?_
        rintro e w' ⟨rfl, rfl⟩
        go_wp2_with fail
        go_ret
        exact ⟨ret_int (by rw [← HR.out, chkE, if_neg (by rw [HN.out]; simp)]), HB.out⟩
      | true =>
        have c2 := refOff_is kr true h2
        cases h3 : ofB kf with
        | false =>
          have c3 := refOff_is kf false h3
          have HN : Hid (okK ⟨ks, ke, kr, kn, kf, km, ko, kl⟩ = false) := by simp [Hid, okK, h3]
          clear h0 h1 h2 h3
          go_enter Try.func12, Try.ntmps12
          go_wp2_with fail
          refine (c0 _).mono ?_
          rintro e w' ⟨rfl, rfl⟩
          go_wp2_with fail
          refine (c1 _).mono ?_
          rintro e w' ⟨rfl, rfl⟩
          go_wp2_with fail
          refine (c2 _).mono ?_
          rintro e w' ⟨rfl, rfl⟩
          go_wp2_with fail
          refine (c3 _).mono ?_
          rintro e w' ⟨rfl, rfl⟩
          go_wp2_with fail
          go_ret
          exact ⟨ret_int (by rw [← HR.out, chkE, if_neg (by rw [HN.out]; simp)]), HB.out⟩
        | true =>
          have c3 := refOff_is kf true h3
          cases h4 : ofB kl with
          | false =>
            have c4 := refOff_is kl false h4
            have HN : Hid (okK ⟨ks, ke, kr, kn, kf, km, ko, kl⟩ = false) := by simp [Hid, okK, h4]
            clear h0 h1 h2 h3 h4
            go_enter Try.func12, Try.ntmps12
            go_wp2_with fail
            refine (c0 _).mono ?_
            rintro e w' ⟨rfl, rfl⟩
            go_wp2_with fail
            refine (c1 _).mono ?_
            rintro e w' ⟨rfl, rfl⟩
            go_wp2_with fail
            refine (c2 _).mono ?_
            rintro e w' ⟨rfl, rfl⟩
            go_wp2_with fail
            refine (c3 _).mono ?_
            rintro e w' ⟨rfl, rfl⟩
            go_wp2_with fail
            refine (c4 _).mono ?_
            rintro e w' ⟨rfl, rfl⟩
            go_wp2_with fail
            go_ret
            exact ⟨ret_int (by rw [← HR.out, chkE, if_neg (by rw [HN.out]; simp)]), HB.out⟩
          | true =>
            have c4 := refOff_is kl true h4
            have HE : Hid (r = if endB ⟨ks, ke, kr, kn, kf, km, ko, kl⟩ = true then 0 else 230) := by unfold Hid; rw [← HR.out, chkE, okK]; simp only [h0, h1, h2, h3, h4, Bool.true_and]
            clear h0 h1 h2 h3 h4 HR
            go_enter Try.func12, Try.ntmps12
            go_wp2_with fail
            refine (c0 _).mono ?_
            rintro e w' ⟨rfl, rfl⟩
            go_wp2_with fail
            refine (c1 _).mono ?_
            rintro e w' ⟨rfl, rfl⟩
            go_wp2_with fail
            refine (c2 _).mono ?_
            rintro e w' ⟨rfl, rfl⟩
            go_wp2_with fail
            refine (c3 _).mono ?_
            rintro e w' ⟨rfl, rfl⟩
            go_wp2_with fail
            refine (c4 _).mono ?_
            rintro e w' ⟨rfl, rfl⟩
            go_wp2_with fail
            all_goals go_ret
            all_goals (refine ⟨ret_int ?_, HB.out⟩; have hE := HE.out; simp only [endB, decide_eq_true_eq] at hE; split at hE <;> omega)

theorem refChk_yes (ks ke kr : Int) (kn : Bool) (kf km ko kl : Int) (k : okK ⟨ks, ke, kr, kn, kf, km, ko, kl⟩ = true) (w : World) : Calls Try.prog 12 #[.agg #[.int .i64 ks, .int .i64 ke, .int .i64 kr, .bool kn, .int .i64 kf, .int .i64 km, .int .i64 ko, .int .i64 kl]] w fun e w' => e = .returned (.int .i64 0) ∧ Below w.heap.size w w' := refChk_is ks ke kr kn kf km ko kl 0 (if_pos k) w
theorem refChk_no (ks ke kr : Int) (kn : Bool) (kf km ko kl : Int) (k : okK ⟨ks, ke, kr, kn, kf, km, ko, kl⟩ = false) (w : World) : Calls Try.prog 12 #[.agg #[.int .i64 ks, .int .i64 ke, .int .i64 kr, .bool kn, .int .i64 kf, .int .i64 km, .int .i64 ko, .int .i64 kl]] w fun e w' => e = .returned (.int .i64 230) ∧ Below w.heap.size w w' := refChk_is ks ke kr kn kf km ko kl 230 (if_neg (by rw [k]; simp)) w
end Go.Proofs.Ytfkkpianlmpknaa
