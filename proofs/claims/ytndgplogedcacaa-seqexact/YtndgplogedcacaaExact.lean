/- For every factors and divisor up to 2^31: the quotient is the greatest number whose product is not too much, what was multiplied with comes back, and the cube root likewise; elsewhere the heads hold (no conditions). -/
import Derived.Test.YtndgplogedcacaaRows
import Derived.Test.YtndgplogedcacaaHeads
import Derived.WalkKit
import Derived.ProofKit
import Derived.OpenShut
namespace Go.Proofs.Ytndgplogedcacaa.seqExact
open Go.ChangeShapes Go.WideShapes Go.ChangeAt Go.RowKit
set_option linter.unusedVariables false      -- a walk need not use every 'w<i>' (that an integer argument fits its kind)

theorem own : ownKnob Try.prog.godebug = none := by kernel_rfl

/-- The walk where the numbers are small, the callees' answers under names. -/
theorem walk_in (a b c q r : Int) (w : World) (h1 : 0 ≤ a ∧ a ≤ 2147483648) (h2 : 0 ≤ b ∧ b ≤ 2147483648) (h3 : 1 ≤ c ∧ c ≤ 2147483648)
    (hN : 0 ≤ a * b ∧ a * b ≤ 4611686018427387904) (hq : a * b / c = q) (hq0 : 0 ≤ q ∧ q ≤ 4611686018427387904) (hM : 0 ≤ q * c ∧ q * c ≤ a * b ∧ a * b < q * c + c)
    (hr : 0 ≤ r ∧ r ≤ 2097151) (hrr : 0 ≤ r * r ∧ r * r ≤ 4398042316801) (hr3 : 0 ≤ r * r * r ∧ r * r * r ≤ a * b)
    (hs : (r == 2097151) = false → 0 ≤ (r + 1) * (r + 1) ∧ (r + 1) * (r + 1) ≤ 4398042316801 ∧ (r + 1) * (r + 1) * (r + 1) ≤ 9223358842721533951 ∧ a * b < (r + 1) * (r + 1) * (r + 1))
    (c1 : ∀ w, Calls Try.prog 24 #[.int .i64 a, .int .i64 b, .int .i64 c] w fun e w' => e = .returned (.tuple #[.int .i64 q, .int .i64 0]) ∧ ∃ n, w' = w.drewN n)
    (c2 : ∀ w, Calls Try.prog 24 #[.int .i64 a, .int .i64 c, .int .i64 c] w fun e w' => e = .returned (.tuple #[.int .i64 a, .int .i64 0]) ∧ ∃ n, w' = w.drewN n)
    (c3 : ∀ w, Calls Try.prog 26 #[.int .i64 (a * b)] w fun e w' => e = .returned (.int .i64 r) ∧ w' = w) :
    Calls Try.prog 8 #[.int .i64 a, .int .i64 b, .int .i64 c] w fun e w' => e = .returned (.bool true) ∧ Grown w w' := by
  have HS : Hid ((r == 2097151) = false → 0 ≤ (r + 1) * (r + 1) ∧ (r + 1) * (r + 1) ≤ 4398042316801 ∧ (r + 1) * (r + 1) * (r + 1) ≤ 9223358842721533951 ∧ a * b < (r + 1) * (r + 1) * (r + 1)) := hs
  clear hs
  cases hb : r == 2097151
  · have hs := HS.out hb
    go_enter Try.func8, Try.ntmps8
    go_wp2_with fail
    refine (c1 _).mono ?_
    rintro e w' ⟨rfl, n1, rfl⟩
    go_wp2_with fail
    refine (c2 _).mono ?_
    rintro e w' ⟨rfl, n2, rfl⟩
    go_wp2_with fail
    refine (c3 _).mono ?_
    rintro e w' ⟨rfl, rfl⟩
    go_wp2_with (go_at_call 17; refine (heads_walk _).mono ?_; rintro e w' ⟨rfl, n, rfl⟩)
    go_ret
    exact ⟨rfl, grown_drewN _ _⟩
  · go_enter Try.func8, Try.ntmps8
    go_wp2_with fail
    refine (c1 _).mono ?_
    rintro e w' ⟨rfl, n1, rfl⟩
    go_wp2_with fail
    refine (c2 _).mono ?_
    rintro e w' ⟨rfl, n2, rfl⟩
    go_wp2_with fail
    refine (c3 _).mono ?_
    rintro e w' ⟨rfl, rfl⟩
    go_wp2_with (go_at_call 17; refine (heads_walk _).mono ?_; rintro e w' ⟨rfl, n, rfl⟩)
    go_ret
    exact ⟨rfl, grown_drewN _ _⟩

/-! ### STEP 1: THE WALK: the Go text returns true. 'Grown w w'': the world has at most new blocks (Derived/RowKit3.lean). Part the cases AHEAD of 'go_enter' where a test parts the walk; take each callee by a contract of your own. -/
theorem walk (a0 : Int) (a1 : Int) (a2 : Int) (w0 : (Lit.int .i64 a0).wf = true) (w1 : (Lit.int .i64 a1).wf = true) (w2 : (Lit.int .i64 a2).wf = true) (w : World) :
    Calls Try.prog 8 #[.int .i64 a0, .int .i64 a1, .int .i64 a2] w fun e w' => e = .returned (.bool true) ∧ Grown w w' := by
  have b0 := bounds_i64 w0
  have b1 := bounds_i64 w1
  have b2 := bounds_i64 w2
  clear w0 w1 w2
  by_cases c1 : a0 < 0
  · go_enter Try.func8, Try.ntmps8
    go_wp2_with (go_at_call 17; refine (heads_walk _).mono ?_; rintro e w' ⟨rfl, n, rfl⟩)
    go_ret
    exact ⟨rfl, grown_drewN _ _⟩
  by_cases c2 : a1 < 0
  · go_enter Try.func8, Try.ntmps8
    go_wp2_with (go_at_call 17; refine (heads_walk _).mono ?_; rintro e w' ⟨rfl, n, rfl⟩)
    go_ret
    exact ⟨rfl, grown_drewN _ _⟩
  by_cases c3 : a2 < 1
  · go_enter Try.func8, Try.ntmps8
    go_wp2_with (go_at_call 17; refine (heads_walk _).mono ?_; rintro e w' ⟨rfl, n, rfl⟩)
    go_ret
    exact ⟨rfl, grown_drewN _ _⟩
  by_cases c4 : 2147483648 < a0
  · go_enter Try.func8, Try.ntmps8
    go_wp2_with (go_at_call 17; refine (heads_walk _).mono ?_; rintro e w' ⟨rfl, n, rfl⟩)
    go_ret
    exact ⟨rfl, grown_drewN _ _⟩
  by_cases c5 : 2147483648 < a1
  · go_enter Try.func8, Try.ntmps8
    go_wp2_with (go_at_call 17; refine (heads_walk _).mono ?_; rintro e w' ⟨rfl, n, rfl⟩)
    go_ret
    exact ⟨rfl, grown_drewN _ _⟩
  by_cases c6 : 2147483648 < a2
  · go_enter Try.func8, Try.ntmps8
    go_wp2_with (go_at_call 17; refine (heads_walk _).mono ?_; rintro e w' ⟨rfl, n, rfl⟩)
    go_ret
    exact ⟨rfl, grown_drewN _ _⟩
  have hN0 : 0 ≤ a0 * a1 := Int.mul_nonneg (by omega) (by omega)
  have hN1 : a0 * a1 ≤ 2147483648 * 2147483648 := Int.mul_le_mul (by omega) (by omega) (by omega) (by omega)
  have hq0 : 0 ≤ a0 * a1 / a2 := Int.ediv_nonneg hN0 (by omega)
  have hq1 : a0 * a1 / a2 ≤ a0 * a1 := Int.ediv_le_self _ hN0
  have hm0 := Int.ediv_mul_le (a0 * a1) (b := a2) (by omega)
  have hm1 := Int.lt_ediv_add_one_mul_self (a0 * a1) (b := a2) (by omega)
  rw [Int.add_mul] at hm1
  have hm2 : 0 ≤ a0 * a1 / a2 * a2 := Int.mul_nonneg hq0 (by omega)
  have hR := cbrt_root (a0 * a1)
  have hc := cube_hi hR.lo hR.hi
  have e1 : mulDivI a0 a1 a2 = a0 * a1 / a2 := by unfold mulDivI; rw [if_neg (by omega), if_neg (by omega)]
  have e2 : mulDivE a0 a1 a2 = 0 := by unfold mulDivE; rw [if_neg (by omega)]
  have e3 : mulDivI a0 a2 a2 = a0 := by unfold mulDivI; rw [if_neg (by omega), Int.mul_ediv_cancel _ (by omega), if_neg (by omega)]
  have e4 : mulDivE a0 a2 a2 = 0 := by unfold mulDivE; rw [if_neg (by omega)]
  refine walk_in a0 a1 a2 (a0 * a1 / a2) (cbrtI (a0 * a1)) w (by omega) (by omega) (by omega) (by omega) rfl (by omega) (by omega) ⟨hR.lo, hR.hi⟩ (by omega) ?_ ?_ ?_ ?_ ?_
  · refine ⟨by omega, ?_⟩
    rcases hR.le with h | h
    · rw [h]; omega
    · exact h
  · intro hne
    have hne' : cbrtI (a0 * a1) ≠ 2097151 := ne_of_beq_false hne
    have hlo := hR.lo
    have hhi := hR.hi
    have hd := cube_hi (a := cbrtI (a0 * a1) + 1) (by omega) (by omega)
    refine ⟨by omega, by omega, by omega, ?_⟩
    rcases hR.lt with h | h
    · exact absurd h hne'
    · exact h
  · intro w; have := muldiv_walk a0 a1 a2 b0 b1 b2 w; rw [e1, e2] at this; exact this
  · intro w; have := muldiv_walk a0 a2 a2 b0 b2 b2 w; rw [e3, e4] at this; exact this
  · intro w; exact cbrt_walk _ (by omega) w

/-! ### THE ROW's STEP: WRITTEN OUT: LEAVE IT -/
set_option maxRecDepth 100000 in
theorem lifted (os : Os) (started : os.Started) (H : Type) (enc : TypeId × Value → H) :
    ReturnsInHanded {} Try.checked os 8 .any (Rows.seqExactSpec.pre6 enc Try.prog Try.f8 Rows.seqExactRow.domain false) (Rows.seqExactSpec.post enc Try.prog Try.f8 false true false false) := by
  refine returnsInHanded_of_change (C := Try.checked) own started (by kernel_rfl) Try.func8
    (ChangeSpec.witness6 (enc := enc) (C := Try.checked) false ⟨#[], #[.int .i64 0, .int .i64 0, .int .i64 0], []⟩ 8 (by kernel_rfl) (by kernel_rfl) (by kernel_rfl) (by kernel_rfl)) ?_
  intro W base args ds gs before hval0 hW hcnd _
  have hval : ∀ (j : Nat) t v, Try.f8.params[j]? = some t → args[j]? = some v → Value.okWide Try.prog W .any base t v := hval0
  have hW' := hW
  obtain ⟨p, q, hA0, hV, rfl, hfz, hnd⟩ := hW
  have hA : DataW.TrodAll enc Try.prog W 0 (fun _ => true) true Try.f8.params.toList args.toList ds p := hA0
  rw [Try.params8] at hA hval
  obtain ⟨v0, vs0, d0, ds0, p0, q0, hargs, rfl, rfl, h0, r0⟩ := trodAll_cons hA
  obtain ⟨v1, vs1, d1, ds1, p1, q1, rfl, rfl, rfl, h1, r1⟩ := trodAll_cons r0
  obtain ⟨v2, vs2, d2, ds2, p2, q2, rfl, rfl, rfl, h2, r2⟩ := trodAll_cons r1
  obtain ⟨rfl, rfl, rfl⟩ := trodAll_nil r2
  obtain rfl : args = #[v0, v1, v2] := by cases args; simp_all
  obtain ⟨rfl, rfl⟩ := trodVars_none hV
  obtain ⟨a0, rfl, rfl, rfl, w0⟩ := open_int Try.underlying3 (hval 0 3 v0 rfl rfl) h0
  obtain ⟨a1, rfl, rfl, rfl, w1⟩ := open_int Try.underlying3 (hval 1 3 v1 rfl rfl) h1
  obtain ⟨a2, rfl, rfl, rfl, w2⟩ := open_int Try.underlying3 (hval 2 3 v2 rfl rfl) h2
  clear hA0 hval0
  simp only [List.append_nil] at hW'
  refine (walk a0 a1 a2 w0 w1 w2 W).mono fun e W' ⟨he, hg⟩ => ?_
  subst he
  exact ⟨_, rfl, post_of_same (pa := []) (pv := []) hW' (fun _ _ _ => (trodAll_cons_mk (shut_bool Try.underlying4 _) trodAll_mk0)) (fun sp _ => (trodAll_cons_mk (shut_int Try.underlying3 w0) (trodAll_cons_mk (shut_int Try.underlying3 w1) (trodAll_cons_mk (shut_int Try.underlying3 w2) trodAll_mk0)))) (fun _ _ => rfl) rfl
    (hg.frame _) hg.2.1 (ok_one (by kernel_rfl) rfl (okWide_bool_mk Try.underlying4 _))⟩

theorem over : Rows.seqExactRow.holds Try.pinned (OpenSpec.ofChange Rows.seqExactSpec) :=
  OpenClaim.holds_of_wide 8 Try.f8 rfl rfl rfl rfl rfl rfl rfl ⟨rfl, rfl, rfl, rfl, rfl⟩ rfl rfl rfl rfl rfl (by kernel_rfl) Try.func8 (by kernel_rfl)
    (of_decide_eq_true (by kernel_rfl)) (by unfold Func.isWrapper; first | (rw [if_pos (by decide +kernel)]; kernel_rfl) | (rw [if_neg (by decide +kernel)]; exact ⟨rfl, rfl⟩))
    (fun os started H enc _ => lifted os started H enc)

/-- ████ THE STATEMENT ████ -/
theorem proved : Rows.SeqExactSaid :=
  over
#print axioms proved
end Go.Proofs.Ytndgplogedcacaa.seqExact
