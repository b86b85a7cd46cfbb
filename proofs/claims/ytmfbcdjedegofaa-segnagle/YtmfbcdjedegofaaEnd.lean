/- The contract of endAlone. -/
import Derived.Test.YtmfbcdjedegofaaLeaf
namespace Go.Proofs.Ytmfbcdjedegofaa
open Go.ChangeShapes Go.WideShapes Go.ChangeAt Go.RowKit
set_option linter.unusedVariables false


theorem use_ok {nx en : Int} {cl fi : Bool} {ed un ms mo : Int} (h : okW nx en cl fi ed un ms mo = true) : useI nx en cl fi ed un ms mo = max 0 (ed - nx) := by rw [useI, if_pos h]
set_option maxRecDepth 100000 in
set_option maxHeartbeats 4000000 in
theorem end_yes (nx en : Int) (cl fi : Bool) (ed un ms rm mo : Int) (na fo : Bool) (w : World) (hI : Ints nx en ed un ms rm mo) (hok : okW nx en cl fi ed un ms mo = true) (hg0 : endG nx ed cl fo = true) :
    Calls Try.prog 15 #[.agg #[.int .i64 nx, .int .i64 en, .bool cl, .bool fi, .int .i64 ed, .int .i64 un, .int .i64 ms, .int .i64 rm, .int .i64 mo, .bool na, .bool fo]] w fun e w' => e = .returned (.tuple #[.agg #[.int .i64 nx, .int .i64 nx, .bool true, .bool false], .bool true]) ∧ Below w.heap.size w w' := by
  have hg1 := of_decide_eq_true hg0
  clear hg0
  obtain ⟨u, hu⟩ : ∃ u, max 0 (ed - nx) = u := ⟨_, rfl⟩
  have c1 : ∀ W, Calls Try.prog 12 #[.agg #[.int .i64 nx, .int .i64 en, .bool cl, .bool fi, .int .i64 ed, .int .i64 un, .int .i64 ms, .int .i64 rm, .int .i64 mo, .bool na, .bool fo]] W fun e w' => e = .returned (.int .i64 u) ∧ Below W.heap.size W w' := fun W => use_is nx en cl fi ed un ms rm mo na fo W hI u ((use_ok hok).trans hu)
  have HX : Hid (BoxW ((w.alloc (.cells #[.int .i64 nx, .int .i64 en, .bool cl, .bool fi, .int .i64 ed, .int .i64 un, .int .i64 ms, .int .i64 rm, .int .i64 mo, .bool na, .bool fo] 23)).alloc (.cells #[.int .i64 0, .int .i64 0, .bool false, .bool false] 25)) w.heap.size (.int .i64 nx) (.int .i64 en) (.bool cl) (.bool fi) (.int .i64 ed) (.int .i64 un) (.int .i64 ms) (.int .i64 rm) (.int .i64 mo) (.bool na) (.bool fo)) := (BoxW.new w (.int .i64 nx) (.int .i64 en) (.bool cl) (.bool fi) (.int .i64 ed) (.int .i64 un) (.int .i64 ms) (.int .i64 rm) (.int .i64 mo) (.bool na) (.bool fo)).alloc _
  have HY : Hid (BoxR ((w.alloc (.cells #[.int .i64 nx, .int .i64 en, .bool cl, .bool fi, .int .i64 ed, .int .i64 un, .int .i64 ms, .int .i64 rm, .int .i64 mo, .bool na, .bool fo] 23)).alloc (.cells #[.int .i64 0, .int .i64 0, .bool false, .bool false] 25)) (w.heap.size + 1) (.int .i64 0) (.int .i64 0) (.bool false) (.bool false)) := by
    have := BoxR.new (w.alloc (.cells #[.int .i64 nx, .int .i64 en, .bool cl, .bool fi, .int .i64 ed, .int .i64 un, .int .i64 ms, .int .i64 rm, .int .i64 mo, .bool na, .bool fo] 23)) (.int .i64 0) (.int .i64 0) (.bool false) (.bool false)
    rw [World.size_alloc] at this
    exact this
  have HB : Hid (Below w.heap.size w ((w.alloc (.cells #[.int .i64 nx, .int .i64 en, .bool cl, .bool fi, .int .i64 ed, .int .i64 un, .int .i64 ms, .int .i64 rm, .int .i64 mo, .bool na, .bool fo] 23)).alloc (.cells #[.int .i64 0, .int .i64 0, .bool false, .bool false] 25))) := below_more (below_more (Below.refl _ _) _) _
  have hh := ok_out hok
  unfold Ints I64 at hI
  obtain ⟨rfl, hg⟩ := hg1
  cases fo with
  | true =>
    clear c1 HX HY HB hok
    go_enter Try.func15, Try.ntmps15
    go_wp2_with fail
    refine bodyPost_ret (results_box2 rfl _ _ (w.heap.size + 1) _ _ _ _ rfl (BoxR.new1 w _ _ _ _ _)) rfl ?_
    exact ⟨rfl, below_more (below_more (Below.refl _ _) _) _⟩
  | false =>
    have hv : 1 ≤ u := by simp at hg; omega
    clear hok hh hI hu hg
    go_enter Try.func15, Try.ntmps15
    go_wp2_with fail
    refine (c1 _).mono ?_
    rintro e w1 ⟨rfl, hB1⟩
    have HF : Hid (BoxR w1 (w.heap.size + 1) (.int .i64 0) (.int .i64 0) (.bool false) (.bool false) ∧ Below w.heap.size w w1) := ⟨HY.out.later hB1, Below.on HB.out hB1⟩
    obtain ⟨k0, k1, k2, k3, k4, k5, k6, k7, k8, k9, k10⟩ := (HX.out.later hB1).cells
    obtain ⟨j0, j1, j2, j3⟩ := HF.out.1.cells
    obtain ⟨i0, i1, i2, i3⟩ := HF.out.1.frozen
    clear HX HY HB hB1 c1
    go_wp2_with fail
    refine bodyPost_ret (results_box2 rfl _ _ (w.heap.size + 1) _ _ _ _ rfl (HF.out.1.put _ _ _ _)) rfl ?_
    exact ⟨rfl, below_put HF.out.2 _ (Nat.le_succ _) _ _ _ _⟩
set_option maxRecDepth 100000 in
set_option maxHeartbeats 4000000 in
theorem end_no (nx en : Int) (cl fi : Bool) (ed un ms rm mo : Int) (na fo : Bool) (w : World) (hI : Ints nx en ed un ms rm mo) (hok : okW nx en cl fi ed un ms mo = true) (hg0 : endG nx ed cl fo = false) :
    Calls Try.prog 15 #[.agg #[.int .i64 nx, .int .i64 en, .bool cl, .bool fi, .int .i64 ed, .int .i64 un, .int .i64 ms, .int .i64 rm, .int .i64 mo, .bool na, .bool fo]] w fun e w' => e = .returned (.tuple #[.agg #[.int .i64 0, .int .i64 0, .bool false, .bool false], .bool false]) ∧ Below w.heap.size w w' := by
  have hg := of_decide_eq_false hg0
  clear hg0
  obtain ⟨u, hu⟩ : ∃ u, max 0 (ed - nx) = u := ⟨_, rfl⟩
  have c1 : ∀ W, Calls Try.prog 12 #[.agg #[.int .i64 nx, .int .i64 en, .bool cl, .bool fi, .int .i64 ed, .int .i64 un, .int .i64 ms, .int .i64 rm, .int .i64 mo, .bool na, .bool fo]] W fun e w' => e = .returned (.int .i64 u) ∧ Below W.heap.size W w' := fun W => use_is nx en cl fi ed un ms rm mo na fo W hI u ((use_ok hok).trans hu)
  have HX : Hid (BoxW ((w.alloc (.cells #[.int .i64 nx, .int .i64 en, .bool cl, .bool fi, .int .i64 ed, .int .i64 un, .int .i64 ms, .int .i64 rm, .int .i64 mo, .bool na, .bool fo] 23)).alloc (.cells #[.int .i64 0, .int .i64 0, .bool false, .bool false] 25)) w.heap.size (.int .i64 nx) (.int .i64 en) (.bool cl) (.bool fi) (.int .i64 ed) (.int .i64 un) (.int .i64 ms) (.int .i64 rm) (.int .i64 mo) (.bool na) (.bool fo)) := (BoxW.new w (.int .i64 nx) (.int .i64 en) (.bool cl) (.bool fi) (.int .i64 ed) (.int .i64 un) (.int .i64 ms) (.int .i64 rm) (.int .i64 mo) (.bool na) (.bool fo)).alloc _
  have HY : Hid (BoxR ((w.alloc (.cells #[.int .i64 nx, .int .i64 en, .bool cl, .bool fi, .int .i64 ed, .int .i64 un, .int .i64 ms, .int .i64 rm, .int .i64 mo, .bool na, .bool fo] 23)).alloc (.cells #[.int .i64 0, .int .i64 0, .bool false, .bool false] 25)) (w.heap.size + 1) (.int .i64 0) (.int .i64 0) (.bool false) (.bool false)) := by
    have := BoxR.new (w.alloc (.cells #[.int .i64 nx, .int .i64 en, .bool cl, .bool fi, .int .i64 ed, .int .i64 un, .int .i64 ms, .int .i64 rm, .int .i64 mo, .bool na, .bool fo] 23)) (.int .i64 0) (.int .i64 0) (.bool false) (.bool false)
    rw [World.size_alloc] at this
    exact this
  have HB : Hid (Below w.heap.size w ((w.alloc (.cells #[.int .i64 nx, .int .i64 en, .bool cl, .bool fi, .int .i64 ed, .int .i64 un, .int .i64 ms, .int .i64 rm, .int .i64 mo, .bool na, .bool fo] 23)).alloc (.cells #[.int .i64 0, .int .i64 0, .bool false, .bool false] 25))) := below_more (below_more (Below.refl _ _) _) _
  have hh := ok_out hok
  unfold Ints I64 at hI
  cases cl with
  | false =>
    clear c1 HX HY HB hok hg
    go_enter Try.func15, Try.ntmps15
    go_wp2_with fail
    refine bodyPost_ret (results_box2 rfl _ _ (w.heap.size + 1) _ _ _ _ rfl (BoxR.new1 w _ _ _ _ _)) rfl ?_
    exact ⟨rfl, below_more (below_more (Below.refl _ _) _) _⟩
  | true =>
  cases fo with
  | true => simp at hg
  | false =>
    have hv : u < 1 := by simp at hg; omega
    clear hok hh hI hu hg
    go_enter Try.func15, Try.ntmps15
    go_wp2_with fail
    refine (c1 _).mono ?_
    rintro e w1 ⟨rfl, hB1⟩
    have HF : Hid (BoxR w1 (w.heap.size + 1) (.int .i64 0) (.int .i64 0) (.bool false) (.bool false) ∧ Below w.heap.size w w1) := ⟨HY.out.later hB1, Below.on HB.out hB1⟩
    obtain ⟨k0, k1, k2, k3, k4, k5, k6, k7, k8, k9, k10⟩ := (HX.out.later hB1).cells
    obtain ⟨j0, j1, j2, j3⟩ := HF.out.1.cells
    obtain ⟨i0, i1, i2, i3⟩ := HF.out.1.frozen
    clear HX HY HB hB1 c1
    go_wp2_with fail
    refine bodyPost_ret (results_box2 rfl _ _ (w.heap.size + 1) _ _ _ _ rfl (HF.out.1.put _ _ _ _)) rfl ?_
    exact ⟨rfl, below_put HF.out.2 _ (Nat.le_succ _) _ _ _ _⟩
end Go.Proofs.Ytmfbcdjedegofaa
