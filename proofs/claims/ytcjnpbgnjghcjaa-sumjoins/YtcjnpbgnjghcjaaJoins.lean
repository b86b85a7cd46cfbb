/- SumJoins holds for every three words: joined in any order words give the same; a joined word is 0 only where both are. -/
import Derived.Test.YtcjnpbgnjghcjaaRows
import Derived.Test.YtcjnpbgnjghcjaaHeads
import Derived.WalkKit
import Derived.ProofKit
import Derived.OpenShut
import Derived.ShutString
import Derived.ChangeOld
import Derived.Below
import Derived.ShutString
namespace Go.Proofs.Ytcjnpbgnjghcjaa.sumJoins
open Go.ChangeShapes Go.WideShapes Go.ChangeAt Go.RowKit
open Go.ChangeMaps (open_string shut_string)
set_option linter.unusedVariables false      -- a walk need not use every 'w<i>' (that an integer argument fits its kind)

theorem own : ownKnob Try.prog.godebug = none := by kernel_rfl

theorem bounds_u16 {a : Int} (h : (Lit.int .u16 a).wf = true) : 0 ≤ a ∧ a ≤ 65535 := by
  simp [Lit.wf, IntKind.min, IntKind.max, IntKind.signed, IntKind.bits] at h; omega

theorem join_comm (a b : Int) : joinI b a = joinI a b := by unfold joinI; split <;> split <;> omega
theorem join_assoc {a b c : Int} (ha : 0 ≤ a ∧ a ≤ 65535) (hb : 0 ≤ b ∧ b ≤ 65535) (hc : 0 ≤ c ∧ c ≤ 65535) : joinI (joinI a b) c = joinI a (joinI b c) := by
  unfold joinI; split <;> split <;> split <;> (try split) <;> omega
theorem join_zero {a b : Int} (ha : 0 ≤ a ∧ a ≤ 65535) (hb : 0 ≤ b ∧ b ≤ 65535) (h : ¬ (a = 0 ∧ b = 0)) : 1 ≤ joinI a b ∧ ¬ joinI a b = 0 := by
  unfold joinI; split <;> omega

set_option maxHeartbeats 1000000 in
theorem walk_in (a b c x y z : Int) (ha : 0 ≤ a ∧ a ≤ 65535) (hb : 0 ≤ b ∧ b ≤ 65535) (hc : 0 ≤ c ∧ c ≤ 65535) (hx : 0 ≤ x ∧ x ≤ 65535) (hy : 0 ≤ y ∧ y ≤ 65535)
    (E : Hid (joinI a b = x ∧ joinI b a = x ∧ joinI b c = y ∧ joinI x c = z ∧ joinI a y = z)) (hz : (1 ≤ x ∧ ¬ x = 0) ∨ (x = 0 ∧ a = 0 ∧ b = 0)) (w : World) :
    Calls Try.prog 8 #[.int .u16 a, .int .u16 b, .int .u16 c] w fun e w' => e = .returned (.bool true) ∧ Below w.heap.size w w' := by
  rcases hz with hz | ⟨rfl, rfl, rfl⟩
  all_goals (
    go_enter Try.func8, Try.ntmps8
    go_wp2_with fail
    refine (join_walk _ _ ha hb _).mono ?_
    rintro e w' ⟨he, rfl⟩
    rw [E.out.1] at he
    subst he
    go_wp2_with fail
    refine (join_walk _ _ hb ha _).mono ?_
    rintro e w' ⟨he, rfl⟩
    rw [E.out.2.1] at he
    subst he
    go_wp2_with fail
    refine (join_walk _ _ ha hb _).mono ?_
    rintro e w' ⟨he, rfl⟩
    rw [E.out.1] at he
    subst he
    go_wp2_with fail
    refine (join_walk _ _ hx hc _).mono ?_
    rintro e w' ⟨he, rfl⟩
    rw [E.out.2.2.2.1] at he
    subst he
    go_wp2_with fail
    refine (join_walk _ _ hb hc _).mono ?_
    rintro e w' ⟨he, rfl⟩
    rw [E.out.2.2.1] at he
    subst he
    go_wp2_with fail
    refine (join_walk _ _ ha hy _).mono ?_
    rintro e w' ⟨he, rfl⟩
    rw [E.out.2.2.2.2] at he
    subst he
    go_wp2_with fail
    refine (join_walk _ _ ha hb _).mono ?_
    rintro e w' ⟨he, rfl⟩
    rw [E.out.1] at he
    subst he
    go_wp2_with fail
    refine (heads_any _).mono ?_
    rintro e w' ⟨rfl, hB⟩
    go_wp2
    go_ret
    exact ⟨rfl, hB⟩)

/-! ### STEP 1: THE WALK: the Go text returns true. 'Grown w w'': the world has at most new blocks (Derived/RowKit3.lean). Part the cases AHEAD of 'go_enter' where a test parts the walk; take each callee by a contract of your own. -/
theorem walk (a0 : Int) (a1 : Int) (a2 : Int) (w0 : (Lit.int .u16 a0).wf = true) (w1 : (Lit.int .u16 a1).wf = true) (w2 : (Lit.int .u16 a2).wf = true) (w : World) :
    Calls Try.prog 8 #[.int .u16 a0, .int .u16 a1, .int .u16 a2] w fun e w' => e = .returned (.bool true) ∧ Below w.heap.size w w' := by
  have b0 := bounds_u16 w0
  have b1 := bounds_u16 w1
  have b2 := bounds_u16 w2
  refine walk_in a0 a1 a2 _ _ _ b0 b1 b2 (join_bd b0 b1) (join_bd b1 b2) ⟨rfl, join_comm _ _, rfl, rfl, (join_assoc b0 b1 b2).symm⟩ ?_ w
  by_cases h : a0 = 0 ∧ a1 = 0
  · exact .inr ⟨by rw [h.1, h.2]; decide, h.1, h.2⟩
  · exact .inl (join_zero b0 b1 h)

/-! ### THE ROW's STEP: WRITTEN OUT: LEAVE IT -/
set_option maxRecDepth 100000 in
theorem lifted (os : Os) (started : os.Started) (H : Type) (enc : TypeId × Value → H) :
    ReturnsInHanded {} Try.checked os 8 .any (Rows.sumJoinsSpec.pre6 enc Try.prog Try.f8 Rows.sumJoinsRow.domain false) (Rows.sumJoinsSpec.post enc Try.prog Try.f8 false true false false) := by
  refine returnsInHanded_of_change (C := Try.checked) own started (by kernel_rfl) Try.func8
    (ChangeSpec.witness6 (enc := enc) (C := Try.checked) false ⟨#[], #[.int .u16 0, .int .u16 0, .int .u16 0], []⟩ 8 (by kernel_rfl) (by kernel_rfl) (by kernel_rfl) (by kernel_rfl)) ?_
  intro W base args ds gs before hval0 hW hcnd _
  have hval : ∀ (j : Nat) t v, Try.f8.params[j]? = some t → args[j]? = some v → Value.okWide Try.prog W .any base t v := hval0
  have hW' := hW
  obtain ⟨p, q, hA0, hV, rfl, hfz, hnd⟩ := hW
  have hA : DataW.TrodAll enc Try.prog W 0 (fun _ => true) true Try.f8.params.toList args.toList ds p := hA0
  rw [Try.params8] at hA hval
  obtain ⟨v0, vs0, d0, ds0, p0, q0, hargs, rfl, rfl, h0, r0⟩ := trodAll_cons hA
  obtain ⟨v1, vs1, d1, ds1, p1, q1, rfl, rfl, rfl, h1, r1⟩ := trodAll_cons r0
  obtain ⟨v2, vs2, d2, ds2, p2, q2, rfl, rfl, rfl, h2, r2⟩ := trodAll_cons r1
  obtain ⟨rfl, rfl, rfl⟩ := trodAll_nil r2
  obtain rfl : args = #[v0, v1, v2] := by cases args; simp_all
  obtain ⟨rfl, rfl⟩ := trodVars_none hV
  obtain ⟨a0, rfl, rfl, rfl, w0⟩ := open_int Try.underlying23 (hval 0 23 v0 rfl rfl) h0
  obtain ⟨a1, rfl, rfl, rfl, w1⟩ := open_int Try.underlying23 (hval 1 23 v1 rfl rfl) h1
  obtain ⟨a2, rfl, rfl, rfl, w2⟩ := open_int Try.underlying23 (hval 2 23 v2 rfl rfl) h2
  clear hA0 hval0
  refine (walk a0 a1 a2 w0 w1 w2 W).mono fun e W' ⟨he, bel⟩ => ?_
  subst he
  exact ⟨_, rfl, _, _, _, [], _, [], hW', trodAll_mk1 (shut_bool Try.underlying4 _), (trodAll_cons_mk (shut_int Try.underlying23 w0) (trodAll_cons_mk (shut_int Try.underlying23 w1) (trodAll_cons_mk (shut_int Try.underlying23 w2) trodAll_mk0))), rfl, bel.frame _, fun h => by cases h⟩

theorem over : Rows.sumJoinsRow.holds Try.pinned (OpenSpec.ofChange Rows.sumJoinsSpec) :=
  OpenClaim.holds_of_wide 8 Try.f8 rfl rfl rfl rfl rfl rfl rfl ⟨rfl, rfl, rfl, rfl, rfl⟩ rfl rfl rfl rfl rfl (by kernel_rfl) Try.func8 (by kernel_rfl)
    (of_decide_eq_true (by kernel_rfl)) (by unfold Func.isWrapper; first | (rw [if_pos (by decide +kernel)]; kernel_rfl) | (rw [if_neg (by decide +kernel)]; exact ⟨rfl, rfl⟩))
    (fun os started H enc _ => lifted os started H enc)

/-- ████ THE STATEMENT ████ -/
theorem proved : Rows.SumJoinsSaid :=
  over
#print axioms proved
end Go.Proofs.Ytcjnpbgnjghcjaa.sumJoins
