/- The contract of Check. -/
import Derived.Test.YtdfgdnpokjmjhaaLeaf
namespace Go.Proofs.Ytdfgdnpokjmjhaa
open Go.ChangeShapes Go.WideShapes Go.ChangeAt Go.RowKit
set_option linter.unusedVariables false


set_option maxRecDepth 100000 in
set_option maxHeartbeats 4000000 in
theorem chk_yes (g o f : Int) (w : World) (k : okB (⟨g, o, f⟩ : Pr) = true) : Calls Try.prog 12 #[.agg #[.int .i64 g, .int .i64 o, .int .i64 f]] w fun e w' => e = .returned (.int .i64 0) ∧ Below w.heap.size w w' := by
  obtain ⟨e1, e2, e3⟩ := (near_iff g o f).2 k
  have c1 : ∀ W, Calls Try.prog 18 #[.agg #[.int .i64 g, .int .i64 o, .int .i64 f]] W fun e w' => e = .returned (.agg #[.int .i64 g, .int .i64 o, .int .i64 f]) ∧ Below W.heap.size W w' := fun W => near_is g o f W g o f e1 e2 e3
  clear e1 e2 e3 k
  have HX : Hid (BoxP (w.alloc (.cells #[.int .i64 g, .int .i64 o, .int .i64 f] 23)) w.heap.size (.int .i64 g) (.int .i64 o) (.int .i64 f)) := BoxP.new w _ _ _
  have HB : Hid (Below w.heap.size w (w.alloc (.cells #[.int .i64 g, .int .i64 o, .int .i64 f] 23))) := below_more (Below.refl _ _) _
  go_enter Try.func12, Try.ntmps12
  go_upto_region 1 with fail
  obtain ⟨V, hV⟩ : ∃ V, (w.alloc (.cells #[.int .i64 g, .int .i64 o, .int .i64 f] 23)) = V := ⟨_, rfl⟩
  rw [hV] at HX HB
  try rw [hV]
  clear hV
  have HC : Hid (∀ W, Below V.heap.size V W → W.cell? ⟨w.heap.size, 0, none⟩ = some (.int .i64 g) ∧ W.cell? ⟨w.heap.size, 1, none⟩ = some (.int .i64 o) ∧ W.cell? ⟨w.heap.size, 2, none⟩ = some (.int .i64 f)) := fun W hW => ⟨(HX.out.later hW).cells.1, (HX.out.later hW).cells.2.1, (HX.out.later hW).cells.2.2⟩
  go_region_held3 (fun W => W.cell? ⟨w.heap.size, 0, none⟩ = some (.int .i64 g) ∧ W.cell? ⟨w.heap.size, 1, none⟩ = some (.int .i64 o) ∧ W.cell? ⟨w.heap.size, 2, none⟩ = some (.int .i64 f) ∧ Below V.heap.size V W)
    (refine ⟨(HC.out _ ?_).1, (HC.out _ ?_).2.1, (HC.out _ ?_).2.2, ?_⟩ <;> (repeat (first | with_reducible exact Below.refl _ _ | with_reducible assumption | with_reducible refine Below.drew ?_ | with_reducible refine below_drewN ?_ _ | with_reducible refine below_more ?_ _)))
    (first
      | (go_at_call 18; refine (c1 _).mono ?_; rintro e x1 ⟨rfl, hcx1⟩; have hbx1 : Below V.heap.size V x1 := Below.on (by repeat (first | with_reducible exact Below.refl _ _ | with_reducible assumption | with_reducible refine Below.drew ?_ | with_reducible refine below_drewN ?_ _ | with_reducible refine below_more ?_ _)) hcx1))
  all_goals (go_wp2_with fail; go_ret; exact ⟨rfl, Below.on HB.out hbx1⟩)
set_option maxRecDepth 100000 in
set_option maxHeartbeats 4000000 in
theorem chk_no (g o f : Int) (w : World) (k : okB (⟨g, o, f⟩ : Pr) = false) : Calls Try.prog 12 #[.agg #[.int .i64 g, .int .i64 o, .int .i64 f]] w fun e w' => e = .returned (.int .i64 230) ∧ Below w.heap.size w w' := by
  obtain ⟨g', e1⟩ : ∃ x, clampI g 0 1125899906842624 = x := ⟨_, rfl⟩
  obtain ⟨o', e2⟩ : ∃ x, clampI o 0 1125899906842624 = x := ⟨_, rfl⟩
  obtain ⟨f', e3⟩ : ∃ x, clampI f 1 1073741824 = x := ⟨_, rfl⟩
  have hn : ¬ (g' = g ∧ o' = o ∧ f' = f) := by
    rw [← e1, ← e2, ← e3, near_iff, k]; simp
  have c1 : ∀ W, Calls Try.prog 18 #[.agg #[.int .i64 g, .int .i64 o, .int .i64 f]] W fun e w' => e = .returned (.agg #[.int .i64 g', .int .i64 o', .int .i64 f']) ∧ Below W.heap.size W w' := fun W => near_is g o f W g' o' f' e1 e2 e3
  clear e1 e2 e3 k
  have hc : ¬ g = g' ∨ (g = g' ∧ ¬ o = o') ∨ (g = g' ∧ o = o' ∧ ¬ f = f') := by omega
  clear hn
  rcases hc with h1 | ⟨rfl, h1⟩ | ⟨rfl, rfl, h1⟩

  · have HX : Hid (BoxP (w.alloc (.cells #[.int .i64 g, .int .i64 o, .int .i64 f] 23)) w.heap.size (.int .i64 g) (.int .i64 o) (.int .i64 f)) := BoxP.new w _ _ _
    have HB : Hid (Below w.heap.size w (w.alloc (.cells #[.int .i64 g, .int .i64 o, .int .i64 f] 23))) := below_more (Below.refl _ _) _
    go_enter Try.func12, Try.ntmps12
    go_upto_region 1 with fail
    obtain ⟨V, hV⟩ : ∃ V, (w.alloc (.cells #[.int .i64 g, .int .i64 o, .int .i64 f] 23)) = V := ⟨_, rfl⟩
    rw [hV] at HX HB
    try rw [hV]
    clear hV
    have HC : Hid (∀ W, Below V.heap.size V W → W.cell? ⟨w.heap.size, 0, none⟩ = some (.int .i64 g) ∧ W.cell? ⟨w.heap.size, 1, none⟩ = some (.int .i64 o) ∧ W.cell? ⟨w.heap.size, 2, none⟩ = some (.int .i64 f)) := fun W hW => ⟨(HX.out.later hW).cells.1, (HX.out.later hW).cells.2.1, (HX.out.later hW).cells.2.2⟩
    go_region_held3 (fun W => W.cell? ⟨w.heap.size, 0, none⟩ = some (.int .i64 g) ∧ W.cell? ⟨w.heap.size, 1, none⟩ = some (.int .i64 o) ∧ W.cell? ⟨w.heap.size, 2, none⟩ = some (.int .i64 f) ∧ Below V.heap.size V W)
      (refine ⟨(HC.out _ ?_).1, (HC.out _ ?_).2.1, (HC.out _ ?_).2.2, ?_⟩ <;> (repeat (first | with_reducible exact Below.refl _ _ | with_reducible assumption | with_reducible refine Below.drew ?_ | with_reducible refine below_drewN ?_ _ | with_reducible refine below_more ?_ _)))
      (first
        | (go_at_call 18; refine (c1 _).mono ?_; rintro e x1 ⟨rfl, hcx1⟩; have hbx1 : Below V.heap.size V x1 := Below.on (by repeat (first | with_reducible exact Below.refl _ _ | with_reducible assumption | with_reducible refine Below.drew ?_ | with_reducible refine below_drewN ?_ _ | with_reducible refine below_more ?_ _)) hcx1))
    all_goals (go_wp2_with fail; go_ret; exact ⟨rfl, Below.on HB.out hbx1⟩)
  · have HX : Hid (BoxP (w.alloc (.cells #[.int .i64 g, .int .i64 o, .int .i64 f] 23)) w.heap.size (.int .i64 g) (.int .i64 o) (.int .i64 f)) := BoxP.new w _ _ _
    have HB : Hid (Below w.heap.size w (w.alloc (.cells #[.int .i64 g, .int .i64 o, .int .i64 f] 23))) := below_more (Below.refl _ _) _
    go_enter Try.func12, Try.ntmps12
    go_upto_region 1 with fail
    obtain ⟨V, hV⟩ : ∃ V, (w.alloc (.cells #[.int .i64 g, .int .i64 o, .int .i64 f] 23)) = V := ⟨_, rfl⟩
    rw [hV] at HX HB
    try rw [hV]
    clear hV
    have HC : Hid (∀ W, Below V.heap.size V W → W.cell? ⟨w.heap.size, 0, none⟩ = some (.int .i64 g) ∧ W.cell? ⟨w.heap.size, 1, none⟩ = some (.int .i64 o) ∧ W.cell? ⟨w.heap.size, 2, none⟩ = some (.int .i64 f)) := fun W hW => ⟨(HX.out.later hW).cells.1, (HX.out.later hW).cells.2.1, (HX.out.later hW).cells.2.2⟩
    go_region_held3 (fun W => W.cell? ⟨w.heap.size, 0, none⟩ = some (.int .i64 g) ∧ W.cell? ⟨w.heap.size, 1, none⟩ = some (.int .i64 o) ∧ W.cell? ⟨w.heap.size, 2, none⟩ = some (.int .i64 f) ∧ Below V.heap.size V W)
      (refine ⟨(HC.out _ ?_).1, (HC.out _ ?_).2.1, (HC.out _ ?_).2.2, ?_⟩ <;> (repeat (first | with_reducible exact Below.refl _ _ | with_reducible assumption | with_reducible refine Below.drew ?_ | with_reducible refine below_drewN ?_ _ | with_reducible refine below_more ?_ _)))
      (first
        | (go_at_call 18; refine (c1 _).mono ?_; rintro e x1 ⟨rfl, hcx1⟩; have hbx1 : Below V.heap.size V x1 := Below.on (by repeat (first | with_reducible exact Below.refl _ _ | with_reducible assumption | with_reducible refine Below.drew ?_ | with_reducible refine below_drewN ?_ _ | with_reducible refine below_more ?_ _)) hcx1))
    all_goals (go_wp2_with fail; go_ret; exact ⟨rfl, Below.on HB.out hbx1⟩)
  · have HX : Hid (BoxP (w.alloc (.cells #[.int .i64 g, .int .i64 o, .int .i64 f] 23)) w.heap.size (.int .i64 g) (.int .i64 o) (.int .i64 f)) := BoxP.new w _ _ _
    have HB : Hid (Below w.heap.size w (w.alloc (.cells #[.int .i64 g, .int .i64 o, .int .i64 f] 23))) := below_more (Below.refl _ _) _
    go_enter Try.func12, Try.ntmps12
    go_upto_region 1 with fail
    obtain ⟨V, hV⟩ : ∃ V, (w.alloc (.cells #[.int .i64 g, .int .i64 o, .int .i64 f] 23)) = V := ⟨_, rfl⟩
    rw [hV] at HX HB
    try rw [hV]
    clear hV
    have HC : Hid (∀ W, Below V.heap.size V W → W.cell? ⟨w.heap.size, 0, none⟩ = some (.int .i64 g) ∧ W.cell? ⟨w.heap.size, 1, none⟩ = some (.int .i64 o) ∧ W.cell? ⟨w.heap.size, 2, none⟩ = some (.int .i64 f)) := fun W hW => ⟨(HX.out.later hW).cells.1, (HX.out.later hW).cells.2.1, (HX.out.later hW).cells.2.2⟩
    go_region_held3 (fun W => W.cell? ⟨w.heap.size, 0, none⟩ = some (.int .i64 g) ∧ W.cell? ⟨w.heap.size, 1, none⟩ = some (.int .i64 o) ∧ W.cell? ⟨w.heap.size, 2, none⟩ = some (.int .i64 f) ∧ Below V.heap.size V W)
      (refine ⟨(HC.out _ ?_).1, (HC.out _ ?_).2.1, (HC.out _ ?_).2.2, ?_⟩ <;> (repeat (first | with_reducible exact Below.refl _ _ | with_reducible assumption | with_reducible refine Below.drew ?_ | with_reducible refine below_drewN ?_ _ | with_reducible refine below_more ?_ _)))
      (first
        | (go_at_call 18; refine (c1 _).mono ?_; rintro e x1 ⟨rfl, hcx1⟩; have hbx1 : Below V.heap.size V x1 := Below.on (by repeat (first | with_reducible exact Below.refl _ _ | with_reducible assumption | with_reducible refine Below.drew ?_ | with_reducible refine below_drewN ?_ _ | with_reducible refine below_more ?_ _)) hcx1))
    all_goals (go_wp2_with fail; go_ret; exact ⟨rfl, Below.on HB.out hbx1⟩)
end Go.Proofs.Ytdfgdnpokjmjhaa
