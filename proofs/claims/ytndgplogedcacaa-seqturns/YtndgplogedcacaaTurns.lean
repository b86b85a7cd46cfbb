/- For every two sequence numbers: their differences are opposite but at 2^31, exactly one of two unlike numbers is ahead, and adding the difference comes back (no conditions). -/
import Derived.Test.YtndgplogedcacaaRows
import Derived.Test.YtndgplogedcacaaHeads
import Derived.WalkKit
import Derived.ProofKit
import Derived.OpenShut
namespace Go.Proofs.Ytndgplogedcacaa.seqTurns
open Go.ChangeShapes Go.WideShapes Go.ChangeAt Go.RowKit
set_option linter.unusedVariables false      -- a walk need not use every 'w<i>' (that an integer argument fits its kind)

theorem own : ownKnob Try.prog.godebug = none := by kernel_rfl

/-- The walk, with the callees' answers under names: at 2^31. -/
theorem walk_at (a0 a1 : Int) (w : World)
    (c1 : ∀ w, Calls Try.prog 9 #[.int .u32 a0, .int .u32 a1] w fun e w' => e = .returned (.int .i64 (-2147483648)) ∧ w' = w)
    (c2 : ∀ w, Calls Try.prog 9 #[.int .u32 a1, .int .u32 a0] w fun e w' => e = .returned (.int .i64 (-2147483648)) ∧ w' = w) :
    Calls Try.prog 7 #[.int .u32 a0, .int .u32 a1] w fun e w' => e = .returned (.bool true) ∧ Grown w w' := by
  go_enter Try.func7, Try.ntmps7
  go_wp2_with fail
  refine (c1 _).mono ?_
  rintro e w' ⟨rfl, rfl⟩
  go_wp2_with fail
  refine (c2 _).mono ?_
  rintro e w' ⟨rfl, rfl⟩
  go_wp2_with (go_at_call 17; refine (heads_walk _).mono ?_; rintro e w' ⟨rfl, n, rfl⟩)
  go_ret
  exact ⟨rfl, grown_drewN _ _⟩

/-- The walk elsewhere. -/
theorem walk_off (a0 a1 X Z : Int) (p q r : Bool) (w : World) (hX : -2147483648 < X ∧ X ≤ 2147483647) (hZ : -2147483647 ≤ Z ∧ Z ≤ 2147483647) (t1 : (X == -2147483648) = false) (t2 : (Z == -2147483648) = false) (t3 : (X == -Z) = true) (hr : (a0 != a1) = r) (hp : ((p != q) == r) = true)
    (c1 : ∀ w, Calls Try.prog 9 #[.int .u32 a0, .int .u32 a1] w fun e w' => e = .returned (.int .i64 X) ∧ w' = w)
    (c2 : ∀ w, Calls Try.prog 9 #[.int .u32 a1, .int .u32 a0] w fun e w' => e = .returned (.int .i64 Z) ∧ w' = w)
    (c3 : ∀ w, Calls Try.prog 11 #[.int .u32 a0, .int .u32 a1] w fun e w' => e = .returned (.bool p) ∧ w' = w)
    (c4 : ∀ w, Calls Try.prog 11 #[.int .u32 a1, .int .u32 a0] w fun e w' => e = .returned (.bool q) ∧ w' = w)
    (c5 : ∀ w, Calls Try.prog 15 #[.int .u32 a0, .int .i64 X] w fun e w' => e = .returned (.int .u32 a1) ∧ w' = w) :
    Calls Try.prog 7 #[.int .u32 a0, .int .u32 a1] w fun e w' => e = .returned (.bool true) ∧ Grown w w' := by
  revert hp
  cases p <;> cases q <;> cases r <;> intro hp <;> first | exact absurd hp (by decide) | clear hp
  all_goals
    go_enter Try.func7, Try.ntmps7
    go_wp2_with fail
    refine (c1 _).mono ?_
    rintro e w' ⟨rfl, rfl⟩
    go_wp2_with fail
    refine (c2 _).mono ?_
    rintro e w' ⟨rfl, rfl⟩
    go_wp2_with fail
    refine (c3 _).mono ?_
    rintro e w' ⟨rfl, rfl⟩
    go_wp2_with fail
    refine (c4 _).mono ?_
    rintro e w' ⟨rfl, rfl⟩
    go_wp2_with fail
    refine (c5 _).mono ?_
    rintro e w' ⟨rfl, rfl⟩
    go_wp2_with (go_at_call 17; refine (heads_walk _).mono ?_; rintro e w' ⟨rfl, n, rfl⟩)
    go_ret
    exact ⟨rfl, grown_drewN _ _⟩

/-! ### STEP 1: THE WALK: the Go text returns true. 'Grown w w'': the world has at most new blocks (Derived/RowKit3.lean). Part the cases AHEAD of 'go_enter' where a test parts the walk; take each callee by a contract of your own. -/
theorem walk (a0 : Int) (a1 : Int) (w0 : (Lit.int .u32 a0).wf = true) (w1 : (Lit.int .u32 a1).wf = true) (w : World) :
    Calls Try.prog 7 #[.int .u32 a0, .int .u32 a1] w fun e w' => e = .returned (.bool true) ∧ Grown w w' := by
  have b0 := bounds_u32 w0
  have b1 := bounds_u32 w1
  clear w0 w1
  have h0 : diffI a0 a1 = (a1 - a0 + 2147483648) % 4294967296 - 2147483648 := rfl
  have h1 : diffI a1 a0 = (a0 - a1 + 2147483648) % 4294967296 - 2147483648 := rfl
  by_cases hX : diffI a0 a1 = -2147483648
  · have hZ : diffI a1 a0 = -2147483648 := by omega
    refine walk_at a0 a1 w ?_ ?_
    · intro w; have := diff_walk a0 a1 b0 b1 w; rw [hX] at this; exact this
    · intro w; have := diff_walk a1 a0 b1 b0 w; rw [hZ] at this; exact this
  · have hZ : diffI a1 a0 = - diffI a0 a1 := by omega
    have hd := diff_bd a0 a1
    have hA : addI a0 (diffI a0 a1) = a1 := by unfold addI; omega
    have e : (a0 = a1) ↔ diffI a0 a1 = 0 := by omega
    refine walk_off a0 a1 (diffI a0 a1) (diffI a1 a0) (lessB a0 a1) (lessB a1 a0) (a0 != a1) w (by omega) (by omega) (beq_false_of_ne (by omega)) (beq_false_of_ne (by omega)) (beq_iff_eq.mpr (by omega)) rfl ?_ (fun w => diff_walk a0 a1 b0 b1 w) (fun w => diff_walk a1 a0 b1 b0 w) (fun w => less_walk a0 a1 b0 b1 w) (fun w => less_walk a1 a0 b1 b0 w) ?_
    · unfold lessB
      rw [hZ]
      clear h0 h1 hZ hA
      generalize diffI a0 a1 = X at *
      by_cases g : X = 0
      · have := e.2 g; subst g; simp [this]
      · have ne : (a0 != a1) = true := by simp; exact fun h => g (e.1 h)
        rw [ne]
        by_cases g2 : 0 < X
        · rw [decide_eq_true g2, decide_eq_false (show ¬ 0 < -X by omega)]; rfl
        · rw [decide_eq_false g2, decide_eq_true (show 0 < -X by omega)]; rfl
    · intro w; have := add_walk a0 (diffI a0 a1) w; rw [hA] at this; exact this

/-! ### THE ROW's STEP: WRITTEN OUT: LEAVE IT -/
set_option maxRecDepth 100000 in
theorem lifted (os : Os) (started : os.Started) (H : Type) (enc : TypeId × Value → H) :
    ReturnsInHanded {} Try.checked os 7 .any (Rows.seqTurnsSpec.pre6 enc Try.prog Try.f7 Rows.seqTurnsRow.domain false) (Rows.seqTurnsSpec.post enc Try.prog Try.f7 false true false false) := by
  refine returnsInHanded_of_change (C := Try.checked) own started (by kernel_rfl) Try.func7
    (ChangeSpec.witness6 (enc := enc) (C := Try.checked) false ⟨#[], #[.int .u32 0, .int .u32 0], []⟩ 8 (by kernel_rfl) (by kernel_rfl) (by kernel_rfl) (by kernel_rfl)) ?_
  intro W base args ds gs before hval0 hW hcnd _
  have hval : ∀ (j : Nat) t v, Try.f7.params[j]? = some t → args[j]? = some v → Value.okWide Try.prog W .any base t v := hval0
  have hW' := hW
  obtain ⟨p, q, hA0, hV, rfl, hfz, hnd⟩ := hW
  have hA : DataW.TrodAll enc Try.prog W 0 (fun _ => true) true Try.f7.params.toList args.toList ds p := hA0
  rw [Try.params7] at hA hval
  obtain ⟨v0, vs0, d0, ds0, p0, q0, hargs, rfl, rfl, h0, r0⟩ := trodAll_cons hA
  obtain ⟨v1, vs1, d1, ds1, p1, q1, rfl, rfl, rfl, h1, r1⟩ := trodAll_cons r0
  obtain ⟨rfl, rfl, rfl⟩ := trodAll_nil r1
  obtain rfl : args = #[v0, v1] := by cases args; simp_all
  obtain ⟨rfl, rfl⟩ := trodVars_none hV
  obtain ⟨a0, rfl, rfl, rfl, w0⟩ := open_int Try.underlying22 (hval 0 22 v0 rfl rfl) h0
  obtain ⟨a1, rfl, rfl, rfl, w1⟩ := open_int Try.underlying22 (hval 1 22 v1 rfl rfl) h1
  clear hA0 hval0
  simp only [List.append_nil] at hW'
  refine (walk a0 a1 w0 w1 W).mono fun e W' ⟨he, hg⟩ => ?_
  subst he
  exact ⟨_, rfl, post_of_same (pa := []) (pv := []) hW' (fun _ _ _ => (trodAll_cons_mk (shut_bool Try.underlying4 _) trodAll_mk0)) (fun sp _ => (trodAll_cons_mk (shut_int Try.underlying22 w0) (trodAll_cons_mk (shut_int Try.underlying22 w1) trodAll_mk0))) (fun _ _ => rfl) rfl
    (hg.frame _) hg.2.1 (ok_one (by kernel_rfl) rfl (okWide_bool_mk Try.underlying4 _))⟩

theorem over : Rows.seqTurnsRow.holds Try.pinned (OpenSpec.ofChange Rows.seqTurnsSpec) :=
  OpenClaim.holds_of_wide 7 Try.f7 rfl rfl rfl rfl rfl rfl rfl ⟨rfl, rfl, rfl, rfl, rfl⟩ rfl rfl rfl rfl rfl (by kernel_rfl) Try.func7 (by kernel_rfl)
    (of_decide_eq_true (by kernel_rfl)) (by unfold Func.isWrapper; first | (rw [if_pos (by decide +kernel)]; kernel_rfl) | (rw [if_neg (by decide +kernel)]; exact ⟨rfl, rfl⟩))
    (fun os started H enc _ => lifted os started H enc)

/-- ████ THE STATEMENT ████ -/
theorem proved : Rows.SeqTurnsSaid :=
  over
#print axioms proved
end Go.Proofs.Ytndgplogedcacaa.seqTurns
