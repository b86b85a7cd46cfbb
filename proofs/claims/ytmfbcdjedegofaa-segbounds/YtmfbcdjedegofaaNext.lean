/- The contract of Next. -/
import Derived.Test.YtmfbcdjedegofaaNext0
import Derived.Test.YtmfbcdjedegofaaNext1
import Derived.Test.YtmfbcdjedegofaaNext2
import Derived.Test.YtmfbcdjedegofaaNext3
namespace Go.Proofs.Ytmfbcdjedegofaa
open Go.ChangeShapes Go.WideShapes Go.ChangeAt Go.RowKit
set_option linter.unusedVariables false


theorem next_is (nx en : Int) (cl fi : Bool) (ed un ms rm mo : Int) (na fo : Bool) (w : World) (hI : Ints nx en ed un ms rm mo) (C : Ct) (hC : nextC nx en cl fi ed un ms rm mo na fo = C) (g : Bool) (hg : nextG nx en cl fi ed un ms rm mo na fo = g) (r : Int) (hr : chkI nx en cl fi ed un ms mo = r) :
    Calls Try.prog 8 #[.agg #[.int .i64 nx, .int .i64 en, .bool cl, .bool fi, .int .i64 ed, .int .i64 un, .int .i64 ms, .int .i64 rm, .int .i64 mo, .bool na, .bool fo]] w fun e w' => e = .returned (.tuple #[.agg #[.int .i64 C.f, .int .i64 C.t, .bool C.n, .bool C.p], .bool g, .int .i64 r]) ∧ Below w.heap.size w w' := by
  unfold nextC at hC
  cases hok : okW nx en cl fi ed un ms mo with
  | false =>
    have e1 : nextG nx en cl fi ed un ms rm mo na fo = false := by rw [nextG, if_neg (by rw [hok]; simp)]
    rw [e1] at hC hg
    rw [if_neg (by simp)] at hC
    rw [chkI, if_neg (by rw [hok]; simp)] at hr
    subst hC; subst hg; subst hr
    exact next_bad nx en cl fi ed un ms rm mo na fo w hI hok
  | true =>
    rw [chkI, if_pos hok] at hr
    subst hr
    cases fi with
    | true =>
      have e1 : nextG nx en cl true ed un ms rm mo na fo = false := by rw [nextG, if_pos hok, if_pos rfl]
      rw [e1] at hC hg
      rw [if_neg (by simp)] at hC
      subst hC; subst hg
      exact next_fin nx en cl ed un ms rm mo na fo w hI hok
    | false =>
      by_cases he : nx = en
      · subst he
        have e1 : nextG nx nx cl false ed un ms rm mo na fo = endG nx ed cl fo := by rw [nextG, if_pos hok, if_neg (by simp), if_pos rfl]
        rw [e1] at hC hg
        rw [if_pos rfl] at hC
        cases he : endG nx ed cl fo with
        | true =>
          rw [he] at hC hg
          subst hg
          rw [if_pos rfl] at hC
          subst hC
          exact next_end nx cl ed un ms rm mo na fo w hI hok he
        | false =>
          rw [he] at hC hg
          subst hg
          rw [if_neg (by simp)] at hC
          subst hC
          exact next_none nx cl ed un ms rm mo na fo w hI hok he
      · cases fo with
        | true =>
          have e1 : nextG nx en cl false ed un ms rm mo na true = true := by rw [nextG, if_pos hok, if_neg (by simp), if_neg he, if_pos rfl]
          rw [e1] at hC hg
          subst hg
          rw [if_pos rfl, if_neg he, if_pos rfl] at hC
          subst hC
          exact next_force nx en cl ed un ms rm mo na w hI hok he
        | false =>
          have e1 : nextG nx en cl false ed un ms rm mo na false = newG nx en cl ed un ms rm mo na := by rw [nextG, if_pos hok, if_neg (by simp), if_neg he, if_neg (by simp)]
          rw [e1] at hC hg
          cases hw : newG nx en cl ed un ms rm mo na with
          | true =>
            rw [hw] at hC hg
            subst hg
            rw [if_pos rfl, if_neg he, if_neg (by simp)] at hC
            exact next_new nx en cl ed un ms rm mo na w hI hok he hw C hC
          | false =>
            rw [hw] at hC hg
            subst hg
            rw [if_neg (by simp)] at hC
            subst hC
            exact next_wait nx en cl ed un ms rm mo na w hI hok he hw
end Go.Proofs.Ytmfbcdjedegofaa
