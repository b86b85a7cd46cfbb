/- The contract of Check. -/
import Derived.Test.YtjeelhnedgpgkaaNear
namespace Go.Proofs.Ytjeelhnedgpgkaa
open Go.ChangeShapes Go.WideShapes Go.ChangeAt Go.RowKit
set_option linter.unusedVariables false


set_option maxRecDepth 100000 in
set_option maxHeartbeats 4000000 in
theorem chk_yes (s v o l h : Int) (w : World) (k : okB (⟨s, v, o, l, h⟩ : Rt) = true) : Calls Try.prog 17 #[.agg #[.int .i64 s, .int .i64 v, .int .i64 o, .int .i64 l, .int .i64 h]] w fun e w' => e = .returned (.int .i64 0) ∧ Below w.heap.size w w' := by
  obtain ⟨e1, e2, e3, e4, e5⟩ := (near_iff s v o l h).2 k
  have c1 : ∀ W, Calls Try.prog 23 #[.agg #[.int .i64 s, .int .i64 v, .int .i64 o, .int .i64 l, .int .i64 h]] W fun e w' => e = .returned (.agg #[.int .i64 s, .int .i64 v, .int .i64 o, .int .i64 l, .int .i64 h]) ∧ Below W.heap.size W w' := fun W => near_is s v o l h W s v o l h e1 e2 e3 e4 e5
  clear e1 e2 e3 e4 e5 k
  have HX : Hid (BoxT (w.alloc (.cells #[.int .i64 s, .int .i64 v, .int .i64 o, .int .i64 l, .int .i64 h] 23)) w.heap.size (.int .i64 s) (.int .i64 v) (.int .i64 o) (.int .i64 l) (.int .i64 h)) := BoxT.new w _ _ _ _ _
  have HB : Hid (Below w.heap.size w (w.alloc (.cells #[.int .i64 s, .int .i64 v, .int .i64 o, .int .i64 l, .int .i64 h] 23))) := below_more (Below.refl _ _) _
  go_enter Try.func17, Try.ntmps17
  go_upto_region 1 with fail
  obtain ⟨V, hV⟩ : ∃ V, (w.alloc (.cells #[.int .i64 s, .int .i64 v, .int .i64 o, .int .i64 l, .int .i64 h] 23)) = V := ⟨_, rfl⟩
  rw [hV] at HX HB
  try rw [hV]
  clear hV
  have HC : Hid (∀ W, Below V.heap.size V W → W.cell? ⟨w.heap.size, 0, none⟩ = some (.int .i64 s) ∧ W.cell? ⟨w.heap.size, 1, none⟩ = some (.int .i64 v) ∧ W.cell? ⟨w.heap.size, 2, none⟩ = some (.int .i64 o) ∧ W.cell? ⟨w.heap.size, 3, none⟩ = some (.int .i64 l) ∧ W.cell? ⟨w.heap.size, 4, none⟩ = some (.int .i64 h)) := fun W hW => ⟨(HX.out.later hW).cells.1, (HX.out.later hW).cells.2.1, (HX.out.later hW).cells.2.2.1, (HX.out.later hW).cells.2.2.2.1, (HX.out.later hW).cells.2.2.2.2⟩
  go_region_held3 (fun W => W.cell? ⟨w.heap.size, 0, none⟩ = some (.int .i64 s) ∧ W.cell? ⟨w.heap.size, 1, none⟩ = some (.int .i64 v) ∧ W.cell? ⟨w.heap.size, 2, none⟩ = some (.int .i64 o) ∧ W.cell? ⟨w.heap.size, 3, none⟩ = some (.int .i64 l) ∧ W.cell? ⟨w.heap.size, 4, none⟩ = some (.int .i64 h) ∧ Below V.heap.size V W)
    (refine ⟨(HC.out _ ?_).1, (HC.out _ ?_).2.1, (HC.out _ ?_).2.2.1, (HC.out _ ?_).2.2.2.1, (HC.out _ ?_).2.2.2.2, ?_⟩ <;> (repeat (first | with_reducible exact Below.refl _ _ | with_reducible assumption | with_reducible refine Below.drew ?_ | with_reducible refine below_drewN ?_ _ | with_reducible refine below_more ?_ _)))
    (first
      | (go_at_call 23; refine (c1 _).mono ?_; rintro e x1 ⟨rfl, hcx1⟩; have hbx1 : Below V.heap.size V x1 := Below.on (by repeat (first | with_reducible exact Below.refl _ _ | with_reducible assumption | with_reducible refine Below.drew ?_ | with_reducible refine below_drewN ?_ _ | with_reducible refine below_more ?_ _)) hcx1))
  all_goals (go_wp2_with fail; go_ret; exact ⟨rfl, Below.on HB.out hbx1⟩)
set_option maxRecDepth 100000 in
set_option maxHeartbeats 4000000 in
theorem chk_no (s v o l h : Int) (w : World) (k : okB (⟨s, v, o, l, h⟩ : Rt) = false) : Calls Try.prog 17 #[.agg #[.int .i64 s, .int .i64 v, .int .i64 o, .int .i64 l, .int .i64 h]] w fun e w' => e = .returned (.int .i64 230) ∧ Below w.heap.size w w' := by
  obtain ⟨s', e1⟩ : ∃ x, nearM s = x := ⟨_, rfl⟩
  obtain ⟨v', e2⟩ : ∃ x, nearM v = x := ⟨_, rfl⟩
  obtain ⟨o', e3⟩ : ∃ x, nearO o l h = x := ⟨_, rfl⟩
  obtain ⟨l', e4⟩ : ∃ x, nearL l h = x := ⟨_, rfl⟩
  obtain ⟨h', e5⟩ : ∃ x, nearH h = x := ⟨_, rfl⟩
  have hn : ¬ (s' = s ∧ v' = v ∧ o' = o ∧ l' = l ∧ h' = h) := by
    rw [← e1, ← e2, ← e3, ← e4, ← e5, near_iff, k]; simp
  have c1 : ∀ W, Calls Try.prog 23 #[.agg #[.int .i64 s, .int .i64 v, .int .i64 o, .int .i64 l, .int .i64 h]] W fun e w' => e = .returned (.agg #[.int .i64 s', .int .i64 v', .int .i64 o', .int .i64 l', .int .i64 h']) ∧ Below W.heap.size W w' := fun W => near_is s v o l h W s' v' o' l' h' e1 e2 e3 e4 e5
  clear e1 e2 e3 e4 e5 k
  have hc : ¬ s = s' ∨ (s = s' ∧ ¬ v = v') ∨ (s = s' ∧ v = v' ∧ ¬ o = o') ∨ (s = s' ∧ v = v' ∧ o = o' ∧ ¬ l = l') ∨ (s = s' ∧ v = v' ∧ o = o' ∧ l = l' ∧ ¬ h = h') := by omega
  clear hn
  rcases hc with h1 | ⟨rfl, h1⟩ | ⟨rfl, rfl, h1⟩ | ⟨rfl, rfl, rfl, h1⟩ | ⟨rfl, rfl, rfl, rfl, h1⟩

  · have HX : Hid (BoxT (w.alloc (.cells #[.int .i64 s, .int .i64 v, .int .i64 o, .int .i64 l, .int .i64 h] 23)) w.heap.size (.int .i64 s) (.int .i64 v) (.int .i64 o) (.int .i64 l) (.int .i64 h)) := BoxT.new w _ _ _ _ _
    have HB : Hid (Below w.heap.size w (w.alloc (.cells #[.int .i64 s, .int .i64 v, .int .i64 o, .int .i64 l, .int .i64 h] 23))) := below_more (Below.refl _ _) _
    go_enter Try.func17, Try.ntmps17
    go_upto_region 1 with fail
    obtain ⟨V, hV⟩ : ∃ V, (w.alloc (.cells #[.int .i64 s, .int .i64 v, .int .i64 o, .int .i64 l, .int .i64 h] 23)) = V := ⟨_, rfl⟩
    rw [hV] at HX HB
    try rw [hV]
    clear hV
    have HC : Hid (∀ W, Below V.heap.size V W → W.cell? ⟨w.heap.size, 0, none⟩ = some (.int .i64 s) ∧ W.cell? ⟨w.heap.size, 1, none⟩ = some (.int .i64 v) ∧ W.cell? ⟨w.heap.size, 2, none⟩ = some (.int .i64 o) ∧ W.cell? ⟨w.heap.size, 3, none⟩ = some (.int .i64 l) ∧ W.cell? ⟨w.heap.size, 4, none⟩ = some (.int .i64 h)) := fun W hW => ⟨(HX.out.later hW).cells.1, (HX.out.later hW).cells.2.1, (HX.out.later hW).cells.2.2.1, (HX.out.later hW).cells.2.2.2.1, (HX.out.later hW).cells.2.2.2.2⟩
    go_region_held3 (fun W => W.cell? ⟨w.heap.size, 0, none⟩ = some (.int .i64 s) ∧ W.cell? ⟨w.heap.size, 1, none⟩ = some (.int .i64 v) ∧ W.cell? ⟨w.heap.size, 2, none⟩ = some (.int .i64 o) ∧ W.cell? ⟨w.heap.size, 3, none⟩ = some (.int .i64 l) ∧ W.cell? ⟨w.heap.size, 4, none⟩ = some (.int .i64 h) ∧ Below V.heap.size V W)
      (refine ⟨(HC.out _ ?_).1, (HC.out _ ?_).2.1, (HC.out _ ?_).2.2.1, (HC.out _ ?_).2.2.2.1, (HC.out _ ?_).2.2.2.2, ?_⟩ <;> (repeat (first | with_reducible exact Below.refl _ _ | with_reducible assumption | with_reducible refine Below.drew ?_ | with_reducible refine below_drewN ?_ _ | with_reducible refine below_more ?_ _)))
      (first
        | (go_at_call 23; refine (c1 _).mono ?_; rintro e x1 ⟨rfl, hcx1⟩; have hbx1 : Below V.heap.size V x1 := Below.on (by repeat (first | with_reducible exact Below.refl _ _ | with_reducible assumption | with_reducible refine Below.drew ?_ | with_reducible refine below_drewN ?_ _ | with_reducible refine below_more ?_ _)) hcx1))
    all_goals (go_wp2_with fail; go_ret; exact ⟨rfl, Below.on HB.out hbx1⟩)
  · have HX : Hid (BoxT (w.alloc (.cells #[.int .i64 s, .int .i64 v, .int .i64 o, .int .i64 l, .int .i64 h] 23)) w.heap.size (.int .i64 s) (.int .i64 v) (.int .i64 o) (.int .i64 l) (.int .i64 h)) := BoxT.new w _ _ _ _ _
    have HB : Hid (Below w.heap.size w (w.alloc (.cells #[.int .i64 s, .int .i64 v, .int .i64 o, .int .i64 l, .int .i64 h] 23))) := below_more (Below.refl _ _) _
    go_enter Try.func17, Try.ntmps17
    go_upto_region 1 with fail
    obtain ⟨V, hV⟩ : ∃ V, (w.alloc (.cells #[.int .i64 s, .int .i64 v, .int .i64 o, .int .i64 l, .int .i64 h] 23)) = V := ⟨_, rfl⟩
    rw [hV] at HX HB
    try rw [hV]
    clear hV
    have HC : Hid (∀ W, Below V.heap.size V W → W.cell? ⟨w.heap.size, 0, none⟩ = some (.int .i64 s) ∧ W.cell? ⟨w.heap.size, 1, none⟩ = some (.int .i64 v) ∧ W.cell? ⟨w.heap.size, 2, none⟩ = some (.int .i64 o) ∧ W.cell? ⟨w.heap.size, 3, none⟩ = some (.int .i64 l) ∧ W.cell? ⟨w.heap.size, 4, none⟩ = some (.int .i64 h)) := fun W hW => ⟨(HX.out.later hW).cells.1, (HX.out.later hW).cells.2.1, (HX.out.later hW).cells.2.2.1, (HX.out.later hW).cells.2.2.2.1, (HX.out.later hW).cells.2.2.2.2⟩
    go_region_held3 (fun W => W.cell? ⟨w.heap.size, 0, none⟩ = some (.int .i64 s) ∧ W.cell? ⟨w.heap.size, 1, none⟩ = some (.int .i64 v) ∧ W.cell? ⟨w.heap.size, 2, none⟩ = some (.int .i64 o) ∧ W.cell? ⟨w.heap.size, 3, none⟩ = some (.int .i64 l) ∧ W.cell? ⟨w.heap.size, 4, none⟩ = some (.int .i64 h) ∧ Below V.heap.size V W)
      (refine ⟨(HC.out _ ?_).1, (HC.out _ ?_).2.1, (HC.out _ ?_).2.2.1, (HC.out _ ?_).2.2.2.1, (HC.out _ ?_).2.2.2.2, ?_⟩ <;> (repeat (first | with_reducible exact Below.refl _ _ | with_reducible assumption | with_reducible refine Below.drew ?_ | with_reducible refine below_drewN ?_ _ | with_reducible refine below_more ?_ _)))
      (first
        | (go_at_call 23; refine (c1 _).mono ?_; rintro e x1 ⟨rfl, hcx1⟩; have hbx1 : Below V.heap.size V x1 := Below.on (by repeat (first | with_reducible exact Below.refl _ _ | with_reducible assumption | with_reducible refine Below.drew ?_ | with_reducible refine below_drewN ?_ _ | with_reducible refine below_more ?_ _)) hcx1))
    all_goals (go_wp2_with fail; go_ret; exact ⟨rfl, Below.on HB.out hbx1⟩)
  · have HX : Hid (BoxT (w.alloc (.cells #[.int .i64 s, .int .i64 v, .int .i64 o, .int .i64 l, .int .i64 h] 23)) w.heap.size (.int .i64 s) (.int .i64 v) (.int .i64 o) (.int .i64 l) (.int .i64 h)) := BoxT.new w _ _ _ _ _
    have HB : Hid (Below w.heap.size w (w.alloc (.cells #[.int .i64 s, .int .i64 v, .int .i64 o, .int .i64 l, .int .i64 h] 23))) := below_more (Below.refl _ _) _
    go_enter Try.func17, Try.ntmps17
    go_upto_region 1 with fail
    obtain ⟨V, hV⟩ : ∃ V, (w.alloc (.cells #[.int .i64 s, .int .i64 v, .int .i64 o, .int .i64 l, .int .i64 h] 23)) = V := ⟨_, rfl⟩
    rw [hV] at HX HB
    try rw [hV]
    clear hV
    have HC : Hid (∀ W, Below V.heap.size V W → W.cell? ⟨w.heap.size, 0, none⟩ = some (.int .i64 s) ∧ W.cell? ⟨w.heap.size, 1, none⟩ = some (.int .i64 v) ∧ W.cell? ⟨w.heap.size, 2, none⟩ = some (.int .i64 o) ∧ W.cell? ⟨w.heap.size, 3, none⟩ = some (.int .i64 l) ∧ W.cell? ⟨w.heap.size, 4, none⟩ = some (.int .i64 h)) := fun W hW => ⟨(HX.out.later hW).cells.1, (HX.out.later hW).cells.2.1, (HX.out.later hW).cells.2.2.1, (HX.out.later hW).cells.2.2.2.1, (HX.out.later hW).cells.2.2.2.2⟩
    go_region_held3 (fun W => W.cell? ⟨w.heap.size, 0, none⟩ = some (.int .i64 s) ∧ W.cell? ⟨w.heap.size, 1, none⟩ = some (.int .i64 v) ∧ W.cell? ⟨w.heap.size, 2, none⟩ = some (.int .i64 o) ∧ W.cell? ⟨w.heap.size, 3, none⟩ = some (.int .i64 l) ∧ W.cell? ⟨w.heap.size, 4, none⟩ = some (.int .i64 h) ∧ Below V.heap.size V W)
      (refine ⟨(HC.out _ ?_).1, (HC.out _ ?_).2.1, (HC.out _ ?_).2.2.1, (HC.out _ ?_).2.2.2.1, (HC.out _ ?_).2.2.2.2, ?_⟩ <;> (repeat (first | with_reducible exact Below.refl _ _ | with_reducible assumption | with_reducible refine Below.drew ?_ | with_reducible refine below_drewN ?_ _ | with_reducible refine below_more ?_ _)))
      (first
        | (go_at_call 23; refine (c1 _).mono ?_; rintro e x1 ⟨rfl, hcx1⟩; have hbx1 : Below V.heap.size V x1 := Below.on (by repeat (first | with_reducible exact Below.refl _ _ | with_reducible assumption | with_reducible refine Below.drew ?_ | with_reducible refine below_drewN ?_ _ | with_reducible refine below_more ?_ _)) hcx1))
    all_goals (go_wp2_with fail; go_ret; exact ⟨rfl, Below.on HB.out hbx1⟩)
  · have HX : Hid (BoxT (w.alloc (.cells #[.int .i64 s, .int .i64 v, .int .i64 o, .int .i64 l, .int .i64 h] 23)) w.heap.size (.int .i64 s) (.int .i64 v) (.int .i64 o) (.int .i64 l) (.int .i64 h)) := BoxT.new w _ _ _ _ _
    have HB : Hid (Below w.heap.size w (w.alloc (.cells #[.int .i64 s, .int .i64 v, .int .i64 o, .int .i64 l, .int .i64 h] 23))) := below_more (Below.refl _ _) _
    go_enter Try.func17, Try.ntmps17
    go_upto_region 1 with fail
    obtain ⟨V, hV⟩ : ∃ V, (w.alloc (.cells #[.int .i64 s, .int .i64 v, .int .i64 o, .int .i64 l, .int .i64 h] 23)) = V := ⟨_, rfl⟩
    rw [hV] at HX HB
    try rw [hV]
    clear hV
    have HC : Hid (∀ W, Below V.heap.size V W → W.cell? ⟨w.heap.size, 0, none⟩ = some (.int .i64 s) ∧ W.cell? ⟨w.heap.size, 1, none⟩ = some (.int .i64 v) ∧ W.cell? ⟨w.heap.size, 2, none⟩ = some (.int .i64 o) ∧ W.cell? ⟨w.heap.size, 3, none⟩ = some (.int .i64 l) ∧ W.cell? ⟨w.heap.size, 4, none⟩ = some (.int .i64 h)) := fun W hW => ⟨(HX.out.later hW).cells.1, (HX.out.later hW).cells.2.1, (HX.out.later hW).cells.2.2.1, (HX.out.later hW).cells.2.2.2.1, (HX.out.later hW).cells.2.2.2.2⟩
    go_region_held3 (fun W => W.cell? ⟨w.heap.size, 0, none⟩ = some (.int .i64 s) ∧ W.cell? ⟨w.heap.size, 1, none⟩ = some (.int .i64 v) ∧ W.cell? ⟨w.heap.size, 2, none⟩ = some (.int .i64 o) ∧ W.cell? ⟨w.heap.size, 3, none⟩ = some (.int .i64 l) ∧ W.cell? ⟨w.heap.size, 4, none⟩ = some (.int .i64 h) ∧ Below V.heap.size V W)
      (refine ⟨(HC.out _ ?_).1, (HC.out _ ?_).2.1, (HC.out _ ?_).2.2.1, (HC.out _ ?_).2.2.2.1, (HC.out _ ?_).2.2.2.2, ?_⟩ <;> (repeat (first | with_reducible exact Below.refl _ _ | with_reducible assumption | with_reducible refine Below.drew ?_ | with_reducible refine below_drewN ?_ _ | with_reducible refine below_more ?_ _)))
      (first
        | (go_at_call 23; refine (c1 _).mono ?_; rintro e x1 ⟨rfl, hcx1⟩; have hbx1 : Below V.heap.size V x1 := Below.on (by repeat (first | with_reducible exact Below.refl _ _ | with_reducible assumption | with_reducible refine Below.drew ?_ | with_reducible refine below_drewN ?_ _ | with_reducible refine below_more ?_ _)) hcx1))
    all_goals (go_wp2_with fail; go_ret; exact ⟨rfl, Below.on HB.out hbx1⟩)
  · have HX : Hid (BoxT (w.alloc (.cells #[.int .i64 s, .int .i64 v, .int .i64 o, .int .i64 l, .int .i64 h] 23)) w.heap.size (.int .i64 s) (.int .i64 v) (.int .i64 o) (.int .i64 l) (.int .i64 h)) := BoxT.new w _ _ _ _ _
    have HB : Hid (Below w.heap.size w (w.alloc (.cells #[.int .i64 s, .int .i64 v, .int .i64 o, .int .i64 l, .int .i64 h] 23))) := below_more (Below.refl _ _) _
    go_enter Try.func17, Try.ntmps17
    go_upto_region 1 with fail
    obtain ⟨V, hV⟩ : ∃ V, (w.alloc (.cells #[.int .i64 s, .int .i64 v, .int .i64 o, .int .i64 l, .int .i64 h] 23)) = V := ⟨_, rfl⟩
    rw [hV] at HX HB
    try rw [hV]
    clear hV
    have HC : Hid (∀ W, Below V.heap.size V W → W.cell? ⟨w.heap.size, 0, none⟩ = some (.int .i64 s) ∧ W.cell? ⟨w.heap.size, 1, none⟩ = some (.int .i64 v) ∧ W.cell? ⟨w.heap.size, 2, none⟩ = some (.int .i64 o) ∧ W.cell? ⟨w.heap.size, 3, none⟩ = some (.int .i64 l) ∧ W.cell? ⟨w.heap.size, 4, none⟩ = some (.int .i64 h)) := fun W hW => ⟨(HX.out.later hW).cells.1, (HX.out.later hW).cells.2.1, (HX.out.later hW).cells.2.2.1, (HX.out.later hW).cells.2.2.2.1, (HX.out.later hW).cells.2.2.2.2⟩
    go_region_held3 (fun W => W.cell? ⟨w.heap.size, 0, none⟩ = some (.int .i64 s) ∧ W.cell? ⟨w.heap.size, 1, none⟩ = some (.int .i64 v) ∧ W.cell? ⟨w.heap.size, 2, none⟩ = some (.int .i64 o) ∧ W.cell? ⟨w.heap.size, 3, none⟩ = some (.int .i64 l) ∧ W.cell? ⟨w.heap.size, 4, none⟩ = some (.int .i64 h) ∧ Below V.heap.size V W)
      (refine ⟨(HC.out _ ?_).1, (HC.out _ ?_).2.1, (HC.out _ ?_).2.2.1, (HC.out _ ?_).2.2.2.1, (HC.out _ ?_).2.2.2.2, ?_⟩ <;> (repeat (first | with_reducible exact Below.refl _ _ | with_reducible assumption | with_reducible refine Below.drew ?_ | with_reducible refine below_drewN ?_ _ | with_reducible refine below_more ?_ _)))
      (first
        | (go_at_call 23; refine (c1 _).mono ?_; rintro e x1 ⟨rfl, hcx1⟩; have hbx1 : Below V.heap.size V x1 := Below.on (by repeat (first | with_reducible exact Below.refl _ _ | with_reducible assumption | with_reducible refine Below.drew ?_ | with_reducible refine below_drewN ?_ _ | with_reducible refine below_more ?_ _)) hcx1))
    all_goals (go_wp2_with fail; go_ret; exact ⟨rfl, Below.on HB.out hbx1⟩)
end Go.Proofs.Ytjeelhnedgpgkaa
