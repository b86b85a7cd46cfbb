/- For every offset within 2^62 and every base within 2^31 of it: the offset is found again from its sequence number, and the difference too; elsewhere the heads hold (no conditions). -/
import Derived.Test.YtndgplogedcacaaRows
import Derived.Test.YtndgplogedcacaaHeads
import Derived.WalkKit
import Derived.ProofKit
import Derived.OpenShut
namespace Go.Proofs.Ytndgplogedcacaa.seqBack
open Go.ChangeShapes Go.WideShapes Go.ChangeAt Go.RowKit
set_option linter.unusedVariables false      -- a walk need not use every 'w<i>' (that an integer argument fits its kind)

theorem own : ownKnob Try.prog.godebug = none := by kernel_rfl

/-- The walk where the numbers are near, the callees' answers under names. -/
theorem walk_in (x d s t : Int) (w : World) (h1 : -4611686018427387904 ≤ x ∧ x ≤ 4611686018427387904) (h2 : -2147483648 ≤ d ∧ d < 2147483648)
    (c1 : ∀ w, Calls Try.prog 15 #[.int .u32 0, .int .i64 x] w fun e w' => e = .returned (.int .u32 s) ∧ w' = w)
    (c2 : ∀ w, Calls Try.prog 18 #[.int .i64 (x - d), .int .u32 s] w fun e w' => e = .returned (.int .i64 x) ∧ w' = w)
    (c3 : ∀ w, Calls Try.prog 15 #[.int .u32 s, .int .i64 (-d)] w fun e w' => e = .returned (.int .u32 t) ∧ w' = w)
    (c4 : ∀ w, Calls Try.prog 9 #[.int .u32 t, .int .u32 s] w fun e w' => e = .returned (.int .i64 d) ∧ w' = w) :
    Calls Try.prog 6 #[.int .i64 x, .int .i64 d] w fun e w' => e = .returned (.bool true) ∧ Grown w w' := by
  go_enter Try.func6, Try.ntmps6
  go_wp2_with fail
  refine (c1 _).mono ?_
  rintro e w' ⟨rfl, rfl⟩
  go_wp2_with fail
  refine (c2 _).mono ?_
  rintro e w' ⟨rfl, rfl⟩
  go_wp2_with fail
  refine (c3 _).mono ?_
  rintro e w' ⟨rfl, rfl⟩
  go_wp2_with fail
  refine (c4 _).mono ?_
  rintro e w' ⟨rfl, rfl⟩
  go_wp2_with (go_at_call 17; refine (heads_walk _).mono ?_; rintro e w' ⟨rfl, n, rfl⟩)
  go_ret
  exact ⟨rfl, grown_drewN _ _⟩

/-! ### STEP 1: THE WALK: the Go text returns true. 'Grown w w'': the world has at most new blocks (Derived/RowKit3.lean). Part the cases AHEAD of 'go_enter' where a test parts the walk; take each callee by a contract of your own. -/
theorem walk (a0 : Int) (a1 : Int) (w0 : (Lit.int .i64 a0).wf = true) (w1 : (Lit.int .i64 a1).wf = true) (w : World) :
    Calls Try.prog 6 #[.int .i64 a0, .int .i64 a1] w fun e w' => e = .returned (.bool true) ∧ Grown w w' := by
  have b0 := bounds_i64 w0
  have b1 := bounds_i64 w1
  clear w0 w1
  by_cases c1 : a0 < -4611686018427387904
  · go_enter Try.func6, Try.ntmps6
    go_wp2_with (go_at_call 17; refine (heads_walk _).mono ?_; rintro e w' ⟨rfl, n, rfl⟩)
    go_ret
    exact ⟨rfl, grown_drewN _ _⟩
  by_cases c2 : 4611686018427387904 < a0
  · go_enter Try.func6, Try.ntmps6
    go_wp2_with (go_at_call 17; refine (heads_walk _).mono ?_; rintro e w' ⟨rfl, n, rfl⟩)
    go_ret
    exact ⟨rfl, grown_drewN _ _⟩
  by_cases c3 : a1 < -2147483648
  · go_enter Try.func6, Try.ntmps6
    go_wp2_with (go_at_call 17; refine (heads_walk _).mono ?_; rintro e w' ⟨rfl, n, rfl⟩)
    go_ret
    exact ⟨rfl, grown_drewN _ _⟩
  by_cases c4 : 2147483648 ≤ a1
  · go_enter Try.func6, Try.ntmps6
    go_wp2_with (go_at_call 17; refine (heads_walk _).mono ?_; rintro e w' ⟨rfl, n, rfl⟩)
    go_ret
    exact ⟨rfl, grown_drewN _ _⟩
  have s0 := add_bd 0 a0
  have t0 := add_bd (addI 0 a0) (-a1)
  have e1 : unwrapI (a0 - a1) (addI 0 a0) = a0 := by
    have e : diffI (modI (a0 - a1)) (addI 0 a0) = a1 := by unfold diffI modI addI; omega
    unfold unwrapI
    rw [e]
    unfold sumI
    rw [if_neg (by omega), if_neg (by omega)]
    omega
  have e2 : diffI (addI (addI 0 a0) (-a1)) (addI 0 a0) = a1 := by unfold diffI addI; omega
  refine walk_in a0 a1 (addI 0 a0) (addI (addI 0 a0) (-a1)) w (by omega) (by omega) (fun w => add_walk 0 a0 w) ?_ (fun w => add_walk _ _ w) ?_
  · intro w; have := unwrap_walk (a0 - a1) (addI 0 a0) (by omega) s0 w; rw [e1] at this; exact this
  · intro w; have := diff_walk _ (addI 0 a0) t0 s0 w; rw [e2] at this; exact this

/-! ### THE ROW's STEP: WRITTEN OUT: LEAVE IT -/
set_option maxRecDepth 100000 in
theorem lifted (os : Os) (started : os.Started) (H : Type) (enc : TypeId × Value → H) :
    ReturnsInHanded {} Try.checked os 6 .any (Rows.seqBackSpec.pre6 enc Try.prog Try.f6 Rows.seqBackRow.domain false) (Rows.seqBackSpec.post enc Try.prog Try.f6 false true false false) := by
  refine returnsInHanded_of_change (C := Try.checked) own started (by kernel_rfl) Try.func6
    (ChangeSpec.witness6 (enc := enc) (C := Try.checked) false ⟨#[], #[.int .i64 0, .int .i64 0], []⟩ 8 (by kernel_rfl) (by kernel_rfl) (by kernel_rfl) (by kernel_rfl)) ?_
  intro W base args ds gs before hval0 hW hcnd _
  have hval : ∀ (j : Nat) t v, Try.f6.params[j]? = some t → args[j]? = some v → Value.okWide Try.prog W .any base t v := hval0
  have hW' := hW
  obtain ⟨p, q, hA0, hV, rfl, hfz, hnd⟩ := hW
  have hA : DataW.TrodAll enc Try.prog W 0 (fun _ => true) true Try.f6.params.toList args.toList ds p := hA0
  rw [Try.params6] at hA hval
  obtain ⟨v0, vs0, d0, ds0, p0, q0, hargs, rfl, rfl, h0, r0⟩ := trodAll_cons hA
  obtain ⟨v1, vs1, d1, ds1, p1, q1, rfl, rfl, rfl, h1, r1⟩ := trodAll_cons r0
  obtain ⟨rfl, rfl, rfl⟩ := trodAll_nil r1
  obtain rfl : args = #[v0, v1] := by cases args; simp_all
  obtain ⟨rfl, rfl⟩ := trodVars_none hV
  obtain ⟨a0, rfl, rfl, rfl, w0⟩ := open_int Try.underlying3 (hval 0 3 v0 rfl rfl) h0
  obtain ⟨a1, rfl, rfl, rfl, w1⟩ := open_int Try.underlying3 (hval 1 3 v1 rfl rfl) h1
  clear hA0 hval0
  simp only [List.append_nil] at hW'
  refine (walk a0 a1 w0 w1 W).mono fun e W' ⟨he, hg⟩ => ?_
  subst he
  exact ⟨_, rfl, post_of_same (pa := []) (pv := []) hW' (fun _ _ _ => (trodAll_cons_mk (shut_bool Try.underlying4 _) trodAll_mk0)) (fun sp _ => (trodAll_cons_mk (shut_int Try.underlying3 w0) (trodAll_cons_mk (shut_int Try.underlying3 w1) trodAll_mk0))) (fun _ _ => rfl) rfl
    (hg.frame _) hg.2.1 (ok_one (by kernel_rfl) rfl (okWide_bool_mk Try.underlying4 _))⟩

theorem over : Rows.seqBackRow.holds Try.pinned (OpenSpec.ofChange Rows.seqBackSpec) :=
  OpenClaim.holds_of_wide 6 Try.f6 rfl rfl rfl rfl rfl rfl rfl ⟨rfl, rfl, rfl, rfl, rfl⟩ rfl rfl rfl rfl rfl (by kernel_rfl) Try.func6 (by kernel_rfl)
    (of_decide_eq_true (by kernel_rfl)) (by unfold Func.isWrapper; first | (rw [if_pos (by decide +kernel)]; kernel_rfl) | (rw [if_neg (by decide +kernel)]; exact ⟨rfl, rfl⟩))
    (fun os started H enc _ => lifted os started H enc)

/-- ████ THE STATEMENT ████ -/
theorem proved : Rows.SeqBackSaid :=
  over
#print axioms proved
end Go.Proofs.Ytndgplogedcacaa.seqBack
