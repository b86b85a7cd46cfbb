/- The document's Next, but for new data. -/
import Derived.Test.YtmfbcdjedegofaaEnd
namespace Go.Proofs.Ytmfbcdjedegofaa
open Go.ChangeShapes Go.WideShapes Go.ChangeAt Go.RowKit
set_option linter.unusedVariables false


set_option maxRecDepth 100000 in
set_option maxHeartbeats 4000000 in
theorem ref_bad (nx en : Int) (cl fi : Bool) (ed un ms rm mo : Int) (na fo : Bool) (w : World) (hI : Ints nx en ed un ms rm mo) (hok : okW nx en cl fi ed un ms mo = false) :
    Calls Try.prog 9 #[.agg #[.int .i64 nx, .int .i64 en, .bool cl, .bool fi, .int .i64 ed, .int .i64 un, .int .i64 ms, .int .i64 rm, .int .i64 mo, .bool na, .bool fo]] w fun e w' => e = .returned (.tuple #[.agg #[.int .i64 0, .int .i64 0, .bool false, .bool false], .bool false, .int .i64 2]) ∧ Below w.heap.size w w'  := by
  have HX : Hid (BoxW ((w.alloc (.cells #[.int .i64 nx, .int .i64 en, .bool cl, .bool fi, .int .i64 ed, .int .i64 un, .int .i64 ms, .int .i64 rm, .int .i64 mo, .bool na, .bool fo] 23)).alloc (.cells #[.int .i64 0, .int .i64 0, .bool false, .bool false] 25)) w.heap.size (.int .i64 nx) (.int .i64 en) (.bool cl) (.bool fi) (.int .i64 ed) (.int .i64 un) (.int .i64 ms) (.int .i64 rm) (.int .i64 mo) (.bool na) (.bool fo)) := (BoxW.new w (.int .i64 nx) (.int .i64 en) (.bool cl) (.bool fi) (.int .i64 ed) (.int .i64 un) (.int .i64 ms) (.int .i64 rm) (.int .i64 mo) (.bool na) (.bool fo)).alloc _
  have HY : Hid (BoxR ((w.alloc (.cells #[.int .i64 nx, .int .i64 en, .bool cl, .bool fi, .int .i64 ed, .int .i64 un, .int .i64 ms, .int .i64 rm, .int .i64 mo, .bool na, .bool fo] 23)).alloc (.cells #[.int .i64 0, .int .i64 0, .bool false, .bool false] 25)) (w.heap.size + 1) (.int .i64 0) (.int .i64 0) (.bool false) (.bool false)) := by
    have := BoxR.new (w.alloc (.cells #[.int .i64 nx, .int .i64 en, .bool cl, .bool fi, .int .i64 ed, .int .i64 un, .int .i64 ms, .int .i64 rm, .int .i64 mo, .bool na, .bool fo] 23)) (.int .i64 0) (.int .i64 0) (.bool false) (.bool false)
    rw [World.size_alloc] at this
    exact this
  have HB : Hid (Below w.heap.size w ((w.alloc (.cells #[.int .i64 nx, .int .i64 en, .bool cl, .bool fi, .int .i64 ed, .int .i64 un, .int .i64 ms, .int .i64 rm, .int .i64 mo, .bool na, .bool fo] 23)).alloc (.cells #[.int .i64 0, .int .i64 0, .bool false, .bool false] 25))) := below_more (below_more (Below.refl _ _) _) _
  have c1 : ∀ W, Calls Try.prog 11 #[.agg #[.int .i64 nx, .int .i64 en, .bool cl, .bool fi, .int .i64 ed, .int .i64 un, .int .i64 ms, .int .i64 rm, .int .i64 mo, .bool na, .bool fo]] W fun e w' => e = .returned (.int .i64 2) ∧ Below W.heap.size W w' := fun W => refChk_is nx en cl fi ed un ms rm mo na fo W hI 2 (by rw [chkI, if_neg (by rw [hok]; simp)])
  clear hI hok
  go_enter Try.func9, Try.ntmps9
  go_wp2_with fail
  refine (c1 _).mono ?_
  rintro e w1 ⟨rfl, hB1⟩
  have HF : Hid (BoxR w1 (w.heap.size + 1) (.int .i64 0) (.int .i64 0) (.bool false) (.bool false) ∧ Below w.heap.size w w1 ∧ BoxW w1 w.heap.size (.int .i64 nx) (.int .i64 en) (.bool cl) (.bool fi) (.int .i64 ed) (.int .i64 un) (.int .i64 ms) (.int .i64 rm) (.int .i64 mo) (.bool na) (.bool fo)) := ⟨HY.out.later hB1, Below.on HB.out hB1, HX.out.later hB1⟩
  clear HX HY HB hB1 c1

  obtain ⟨j0, j1, j2, j3⟩ := HF.out.1.cells
  obtain ⟨i0, i1, i2, i3⟩ := HF.out.1.frozen

  go_wp2_with fail
  refine bodyPost_ret (results_box3 rfl _ _ (w.heap.size + 1) _ _ _ _ rfl (HF.out.1.put _ _ _ _)) rfl ?_
  exact ⟨rfl, below_put HF.out.2.1 _ (Nat.le_succ _) _ _ _ _⟩

set_option maxRecDepth 100000 in
set_option maxHeartbeats 4000000 in
theorem ref_fin (nx en : Int) (cl : Bool) (ed un ms rm mo : Int) (na fo : Bool) (w : World) (hI : Ints nx en ed un ms rm mo) (hok : okW nx en cl true ed un ms mo = true) :
    Calls Try.prog 9 #[.agg #[.int .i64 nx, .int .i64 en, .bool cl, .bool true, .int .i64 ed, .int .i64 un, .int .i64 ms, .int .i64 rm, .int .i64 mo, .bool na, .bool fo]] w fun e w' => e = .returned (.tuple #[.agg #[.int .i64 0, .int .i64 0, .bool false, .bool false], .bool false, .int .i64 0]) ∧ Below w.heap.size w w'  := by
  have HX : Hid (BoxW ((w.alloc (.cells #[.int .i64 nx, .int .i64 en, .bool cl, .bool true, .int .i64 ed, .int .i64 un, .int .i64 ms, .int .i64 rm, .int .i64 mo, .bool na, .bool fo] 23)).alloc (.cells #[.int .i64 0, .int .i64 0, .bool false, .bool false] 25)) w.heap.size (.int .i64 nx) (.int .i64 en) (.bool cl) (.bool true) (.int .i64 ed) (.int .i64 un) (.int .i64 ms) (.int .i64 rm) (.int .i64 mo) (.bool na) (.bool fo)) := (BoxW.new w (.int .i64 nx) (.int .i64 en) (.bool cl) (.bool true) (.int .i64 ed) (.int .i64 un) (.int .i64 ms) (.int .i64 rm) (.int .i64 mo) (.bool na) (.bool fo)).alloc _
  have HY : Hid (BoxR ((w.alloc (.cells #[.int .i64 nx, .int .i64 en, .bool cl, .bool true, .int .i64 ed, .int .i64 un, .int .i64 ms, .int .i64 rm, .int .i64 mo, .bool na, .bool fo] 23)).alloc (.cells #[.int .i64 0, .int .i64 0, .bool false, .bool false] 25)) (w.heap.size + 1) (.int .i64 0) (.int .i64 0) (.bool false) (.bool false)) := by
    have := BoxR.new (w.alloc (.cells #[.int .i64 nx, .int .i64 en, .bool cl, .bool true, .int .i64 ed, .int .i64 un, .int .i64 ms, .int .i64 rm, .int .i64 mo, .bool na, .bool fo] 23)) (.int .i64 0) (.int .i64 0) (.bool false) (.bool false)
    rw [World.size_alloc] at this
    exact this
  have HB : Hid (Below w.heap.size w ((w.alloc (.cells #[.int .i64 nx, .int .i64 en, .bool cl, .bool true, .int .i64 ed, .int .i64 un, .int .i64 ms, .int .i64 rm, .int .i64 mo, .bool na, .bool fo] 23)).alloc (.cells #[.int .i64 0, .int .i64 0, .bool false, .bool false] 25))) := below_more (below_more (Below.refl _ _) _) _
  have c1 : ∀ W, Calls Try.prog 11 #[.agg #[.int .i64 nx, .int .i64 en, .bool cl, .bool true, .int .i64 ed, .int .i64 un, .int .i64 ms, .int .i64 rm, .int .i64 mo, .bool na, .bool fo]] W fun e w' => e = .returned (.int .i64 0) ∧ Below W.heap.size W w' := fun W => refChk_is nx en cl true ed un ms rm mo na fo W hI 0 (by rw [chkI, if_pos hok])
  obtain ⟨u, hu⟩ : ∃ u, max 0 (ed - nx) = u := ⟨_, rfl⟩
  have c2 : ∀ W, Calls Try.prog 13 #[.agg #[.int .i64 nx, .int .i64 en, .bool cl, .bool true, .int .i64 ed, .int .i64 un, .int .i64 ms, .int .i64 rm, .int .i64 mo, .bool na, .bool fo]] W fun e w' => e = .returned (.int .i64 u) ∧ Below W.heap.size W w' := fun W => refUse_is nx en cl true ed un ms rm mo na fo W hI u ((use_ok hok).trans hu)
  have hh := ok_out hok
  have hh2 : -9223372036854775808 ≤ en - nx ∧ en - nx ≤ 9223372036854775807 ∧ -9223372036854775808 ≤ nx + 1 ∧ nx + 1 ≤ 9223372036854775807 := by omega

  clear hI hok hh hu
  go_enter Try.func9, Try.ntmps9
  go_wp2_with fail
  refine (c1 _).mono ?_
  rintro e w1 ⟨rfl, hB1⟩
  have HF : Hid (BoxR w1 (w.heap.size + 1) (.int .i64 0) (.int .i64 0) (.bool false) (.bool false) ∧ Below w.heap.size w w1 ∧ BoxW w1 w.heap.size (.int .i64 nx) (.int .i64 en) (.bool cl) (.bool true) (.int .i64 ed) (.int .i64 un) (.int .i64 ms) (.int .i64 rm) (.int .i64 mo) (.bool na) (.bool fo)) := ⟨HY.out.later hB1, Below.on HB.out hB1, HX.out.later hB1⟩
  clear HX HY HB hB1 c1

  obtain ⟨k0, k1, k2, k3, k4, k5, k6, k7, k8, k9, k10⟩ := HF.out.2.2.cells
  go_wp2_with fail
  refine (c2 _).mono ?_
  rintro e w2 ⟨rfl, hB2⟩
  have HE : Hid (BoxR w2 (w.heap.size + 1) (.int .i64 0) (.int .i64 0) (.bool false) (.bool false) ∧ Below w.heap.size w w2 ∧ BoxW w2 w.heap.size (.int .i64 nx) (.int .i64 en) (.bool cl) (.bool true) (.int .i64 ed) (.int .i64 un) (.int .i64 ms) (.int .i64 rm) (.int .i64 mo) (.bool na) (.bool fo)) := ⟨HF.out.1.later hB2, Below.on HF.out.2.1 hB2, HF.out.2.2.later hB2⟩
  have hlt : w.heap.size + 1 < w2.heap.size := HE.out.1.lt
  have hlt0 : w.heap.size < w2.heap.size := by omega
  clear k0 k1 k2 k3 k4 k5 k6 k7 k8 k9 k10 HF hB2 c2
  obtain ⟨k0, k1, k2, k3, k4, k5, k6, k7, k8, k9, k10⟩ := HE.out.2.2.cells
  obtain ⟨j0, j1, j2, j3⟩ := HE.out.1.cells
  obtain ⟨i0, i1, i2, i3⟩ := HE.out.1.frozen
  go_wp2_with fail
  refine bodyPost_ret (results_box3 rfl _ _ (w.heap.size + 1) _ _ _ _ rfl ((HE.out.1.put _ _ _ _).alloc _)) rfl ?_
  exact ⟨rfl, below_more (below_put HE.out.2.1 _ (Nat.le_succ _) _ _ _ _) _⟩

set_option maxRecDepth 100000 in
set_option maxHeartbeats 4000000 in
theorem ref_force (nx en : Int) (cl : Bool) (ed un ms rm mo : Int) (na : Bool) (w : World) (hI : Ints nx en ed un ms rm mo) (hok : okW nx en cl false ed un ms mo = true) (he : ¬ nx = en) :
    Calls Try.prog 9 #[.agg #[.int .i64 nx, .int .i64 en, .bool cl, .bool false, .int .i64 ed, .int .i64 un, .int .i64 ms, .int .i64 rm, .int .i64 mo, .bool na, .bool true]] w fun e w' => e = .returned (.tuple #[.agg #[.int .i64 nx, .int .i64 (nx + 1), .bool false, .bool (decide (nx + 1 = en))], .bool true, .int .i64 0]) ∧ Below w.heap.size w w'  := by
  have HX : Hid (BoxW ((w.alloc (.cells #[.int .i64 nx, .int .i64 en, .bool cl, .bool false, .int .i64 ed, .int .i64 un, .int .i64 ms, .int .i64 rm, .int .i64 mo, .bool na, .bool true] 23)).alloc (.cells #[.int .i64 0, .int .i64 0, .bool false, .bool false] 25)) w.heap.size (.int .i64 nx) (.int .i64 en) (.bool cl) (.bool false) (.int .i64 ed) (.int .i64 un) (.int .i64 ms) (.int .i64 rm) (.int .i64 mo) (.bool na) (.bool true)) := (BoxW.new w (.int .i64 nx) (.int .i64 en) (.bool cl) (.bool false) (.int .i64 ed) (.int .i64 un) (.int .i64 ms) (.int .i64 rm) (.int .i64 mo) (.bool na) (.bool true)).alloc _
  have HY : Hid (BoxR ((w.alloc (.cells #[.int .i64 nx, .int .i64 en, .bool cl, .bool false, .int .i64 ed, .int .i64 un, .int .i64 ms, .int .i64 rm, .int .i64 mo, .bool na, .bool true] 23)).alloc (.cells #[.int .i64 0, .int .i64 0, .bool false, .bool false] 25)) (w.heap.size + 1) (.int .i64 0) (.int .i64 0) (.bool false) (.bool false)) := by
    have := BoxR.new (w.alloc (.cells #[.int .i64 nx, .int .i64 en, .bool cl, .bool false, .int .i64 ed, .int .i64 un, .int .i64 ms, .int .i64 rm, .int .i64 mo, .bool na, .bool true] 23)) (.int .i64 0) (.int .i64 0) (.bool false) (.bool false)
    rw [World.size_alloc] at this
    exact this
  have HB : Hid (Below w.heap.size w ((w.alloc (.cells #[.int .i64 nx, .int .i64 en, .bool cl, .bool false, .int .i64 ed, .int .i64 un, .int .i64 ms, .int .i64 rm, .int .i64 mo, .bool na, .bool true] 23)).alloc (.cells #[.int .i64 0, .int .i64 0, .bool false, .bool false] 25))) := below_more (below_more (Below.refl _ _) _) _
  have c1 : ∀ W, Calls Try.prog 11 #[.agg #[.int .i64 nx, .int .i64 en, .bool cl, .bool false, .int .i64 ed, .int .i64 un, .int .i64 ms, .int .i64 rm, .int .i64 mo, .bool na, .bool true]] W fun e w' => e = .returned (.int .i64 0) ∧ Below W.heap.size W w' := fun W => refChk_is nx en cl false ed un ms rm mo na true W hI 0 (by rw [chkI, if_pos hok])
  obtain ⟨u, hu⟩ : ∃ u, max 0 (ed - nx) = u := ⟨_, rfl⟩
  have c2 : ∀ W, Calls Try.prog 13 #[.agg #[.int .i64 nx, .int .i64 en, .bool cl, .bool false, .int .i64 ed, .int .i64 un, .int .i64 ms, .int .i64 rm, .int .i64 mo, .bool na, .bool true]] W fun e w' => e = .returned (.int .i64 u) ∧ Below W.heap.size W w' := fun W => refUse_is nx en cl false ed un ms rm mo na true W hI u ((use_ok hok).trans hu)
  have hh := ok_out hok
  have hh2 : -9223372036854775808 ≤ en - nx ∧ en - nx ≤ 9223372036854775807 ∧ -9223372036854775808 ≤ nx + 1 ∧ nx + 1 ≤ 9223372036854775807 := by omega

  have d1 : (en - nx == 0) = false := by simp; omega
  have d2 : decide (nx < en) = true := by simp; omega

  have d3 : (en - nx == 1) = decide (nx + 1 = en) := by rw [Bool.eq_iff_iff]; simp; omega
  generalize decide (nx + 1 = en) = P at d3 ⊢
  clear hI hok hh hu he
  go_enter Try.func9, Try.ntmps9
  go_wp2_with fail
  refine (c1 _).mono ?_
  rintro e w1 ⟨rfl, hB1⟩
  have HF : Hid (BoxR w1 (w.heap.size + 1) (.int .i64 0) (.int .i64 0) (.bool false) (.bool false) ∧ Below w.heap.size w w1 ∧ BoxW w1 w.heap.size (.int .i64 nx) (.int .i64 en) (.bool cl) (.bool false) (.int .i64 ed) (.int .i64 un) (.int .i64 ms) (.int .i64 rm) (.int .i64 mo) (.bool na) (.bool true)) := ⟨HY.out.later hB1, Below.on HB.out hB1, HX.out.later hB1⟩
  clear HX HY HB hB1 c1

  obtain ⟨k0, k1, k2, k3, k4, k5, k6, k7, k8, k9, k10⟩ := HF.out.2.2.cells
  go_wp2_with fail
  refine (c2 _).mono ?_
  rintro e w2 ⟨rfl, hB2⟩
  have HE : Hid (BoxR w2 (w.heap.size + 1) (.int .i64 0) (.int .i64 0) (.bool false) (.bool false) ∧ Below w.heap.size w w2 ∧ BoxW w2 w.heap.size (.int .i64 nx) (.int .i64 en) (.bool cl) (.bool false) (.int .i64 ed) (.int .i64 un) (.int .i64 ms) (.int .i64 rm) (.int .i64 mo) (.bool na) (.bool true)) := ⟨HF.out.1.later hB2, Below.on HF.out.2.1 hB2, HF.out.2.2.later hB2⟩
  have hlt : w.heap.size + 1 < w2.heap.size := HE.out.1.lt
  have hlt0 : w.heap.size < w2.heap.size := by omega
  clear k0 k1 k2 k3 k4 k5 k6 k7 k8 k9 k10 HF hB2 c2
  obtain ⟨k0, k1, k2, k3, k4, k5, k6, k7, k8, k9, k10⟩ := HE.out.2.2.cells
  obtain ⟨j0, j1, j2, j3⟩ := HE.out.1.cells
  obtain ⟨i0, i1, i2, i3⟩ := HE.out.1.frozen
  go_wp2_with fail
  refine bodyPost_ret (results_box3 rfl _ _ (w.heap.size + 1) _ _ _ _ rfl ((HE.out.1.put _ _ _ _).alloc _)) rfl ?_
  exact ⟨rfl, below_more (below_put HE.out.2.1 _ (Nat.le_succ _) _ _ _ _) _⟩

set_option maxRecDepth 100000 in
set_option maxHeartbeats 4000000 in
theorem ref_fend (nx en : Int) (ed un ms rm mo : Int) (na : Bool) (w : World) (hI : Ints nx en ed un ms rm mo) (hok : okW nx en true false ed un ms mo = true) (he : nx = en) :
    Calls Try.prog 9 #[.agg #[.int .i64 nx, .int .i64 en, .bool true, .bool false, .int .i64 ed, .int .i64 un, .int .i64 ms, .int .i64 rm, .int .i64 mo, .bool na, .bool true]] w fun e w' => e = .returned (.tuple #[.agg #[.int .i64 nx, .int .i64 nx, .bool true, .bool false], .bool true, .int .i64 0]) ∧ Below w.heap.size w w'  := by
  have HX : Hid (BoxW ((w.alloc (.cells #[.int .i64 nx, .int .i64 en, .bool true, .bool false, .int .i64 ed, .int .i64 un, .int .i64 ms, .int .i64 rm, .int .i64 mo, .bool na, .bool true] 23)).alloc (.cells #[.int .i64 0, .int .i64 0, .bool false, .bool false] 25)) w.heap.size (.int .i64 nx) (.int .i64 en) (.bool true) (.bool false) (.int .i64 ed) (.int .i64 un) (.int .i64 ms) (.int .i64 rm) (.int .i64 mo) (.bool na) (.bool true)) := (BoxW.new w (.int .i64 nx) (.int .i64 en) (.bool true) (.bool false) (.int .i64 ed) (.int .i64 un) (.int .i64 ms) (.int .i64 rm) (.int .i64 mo) (.bool na) (.bool true)).alloc _
  have HY : Hid (BoxR ((w.alloc (.cells #[.int .i64 nx, .int .i64 en, .bool true, .bool false, .int .i64 ed, .int .i64 un, .int .i64 ms, .int .i64 rm, .int .i64 mo, .bool na, .bool true] 23)).alloc (.cells #[.int .i64 0, .int .i64 0, .bool false, .bool false] 25)) (w.heap.size + 1) (.int .i64 0) (.int .i64 0) (.bool false) (.bool false)) := by
    have := BoxR.new (w.alloc (.cells #[.int .i64 nx, .int .i64 en, .bool true, .bool false, .int .i64 ed, .int .i64 un, .int .i64 ms, .int .i64 rm, .int .i64 mo, .bool na, .bool true] 23)) (.int .i64 0) (.int .i64 0) (.bool false) (.bool false)
    rw [World.size_alloc] at this
    exact this
  have HB : Hid (Below w.heap.size w ((w.alloc (.cells #[.int .i64 nx, .int .i64 en, .bool true, .bool false, .int .i64 ed, .int .i64 un, .int .i64 ms, .int .i64 rm, .int .i64 mo, .bool na, .bool true] 23)).alloc (.cells #[.int .i64 0, .int .i64 0, .bool false, .bool false] 25))) := below_more (below_more (Below.refl _ _) _) _
  have c1 : ∀ W, Calls Try.prog 11 #[.agg #[.int .i64 nx, .int .i64 en, .bool true, .bool false, .int .i64 ed, .int .i64 un, .int .i64 ms, .int .i64 rm, .int .i64 mo, .bool na, .bool true]] W fun e w' => e = .returned (.int .i64 0) ∧ Below W.heap.size W w' := fun W => refChk_is nx en true false ed un ms rm mo na true W hI 0 (by rw [chkI, if_pos hok])
  obtain ⟨u, hu⟩ : ∃ u, max 0 (ed - nx) = u := ⟨_, rfl⟩
  have c2 : ∀ W, Calls Try.prog 13 #[.agg #[.int .i64 nx, .int .i64 en, .bool true, .bool false, .int .i64 ed, .int .i64 un, .int .i64 ms, .int .i64 rm, .int .i64 mo, .bool na, .bool true]] W fun e w' => e = .returned (.int .i64 u) ∧ Below W.heap.size W w' := fun W => refUse_is nx en true false ed un ms rm mo na true W hI u ((use_ok hok).trans hu)
  have hh := ok_out hok
  have hh2 : -9223372036854775808 ≤ en - nx ∧ en - nx ≤ 9223372036854775807 ∧ -9223372036854775808 ≤ nx + 1 ∧ nx + 1 ≤ 9223372036854775807 := by omega

  have d1 : (en - nx == 0) = true := by simp; omega
  have d2 : decide (nx < en) = false := by simp; omega

  clear hI hok hh hu he
  go_enter Try.func9, Try.ntmps9
  go_wp2_with fail
  refine (c1 _).mono ?_
  rintro e w1 ⟨rfl, hB1⟩
  have HF : Hid (BoxR w1 (w.heap.size + 1) (.int .i64 0) (.int .i64 0) (.bool false) (.bool false) ∧ Below w.heap.size w w1 ∧ BoxW w1 w.heap.size (.int .i64 nx) (.int .i64 en) (.bool true) (.bool false) (.int .i64 ed) (.int .i64 un) (.int .i64 ms) (.int .i64 rm) (.int .i64 mo) (.bool na) (.bool true)) := ⟨HY.out.later hB1, Below.on HB.out hB1, HX.out.later hB1⟩
  clear HX HY HB hB1 c1

  obtain ⟨k0, k1, k2, k3, k4, k5, k6, k7, k8, k9, k10⟩ := HF.out.2.2.cells
  go_wp2_with fail
  refine (c2 _).mono ?_
  rintro e w2 ⟨rfl, hB2⟩
  have HE : Hid (BoxR w2 (w.heap.size + 1) (.int .i64 0) (.int .i64 0) (.bool false) (.bool false) ∧ Below w.heap.size w w2 ∧ BoxW w2 w.heap.size (.int .i64 nx) (.int .i64 en) (.bool true) (.bool false) (.int .i64 ed) (.int .i64 un) (.int .i64 ms) (.int .i64 rm) (.int .i64 mo) (.bool na) (.bool true)) := ⟨HF.out.1.later hB2, Below.on HF.out.2.1 hB2, HF.out.2.2.later hB2⟩
  have hlt : w.heap.size + 1 < w2.heap.size := HE.out.1.lt
  have hlt0 : w.heap.size < w2.heap.size := by omega
  clear k0 k1 k2 k3 k4 k5 k6 k7 k8 k9 k10 HF hB2 c2
  obtain ⟨k0, k1, k2, k3, k4, k5, k6, k7, k8, k9, k10⟩ := HE.out.2.2.cells
  obtain ⟨j0, j1, j2, j3⟩ := HE.out.1.cells
  obtain ⟨i0, i1, i2, i3⟩ := HE.out.1.frozen
  go_wp2_with fail
  refine bodyPost_ret (results_box3 rfl _ _ (w.heap.size + 1) _ _ _ _ rfl ((HE.out.1.put _ _ _ _).alloc _)) rfl ?_
  exact ⟨rfl, below_more (below_put HE.out.2.1 _ (Nat.le_succ _) _ _ _ _) _⟩

set_option maxRecDepth 100000 in
set_option maxHeartbeats 4000000 in
theorem ref_fnone (nx en : Int) (ed un ms rm mo : Int) (na : Bool) (w : World) (hI : Ints nx en ed un ms rm mo) (hok : okW nx en false false ed un ms mo = true) (he : nx = en) :
    Calls Try.prog 9 #[.agg #[.int .i64 nx, .int .i64 en, .bool false, .bool false, .int .i64 ed, .int .i64 un, .int .i64 ms, .int .i64 rm, .int .i64 mo, .bool na, .bool true]] w fun e w' => e = .returned (.tuple #[.agg #[.int .i64 0, .int .i64 0, .bool false, .bool false], .bool false, .int .i64 0]) ∧ Below w.heap.size w w'  := by
  have HX : Hid (BoxW ((w.alloc (.cells #[.int .i64 nx, .int .i64 en, .bool false, .bool false, .int .i64 ed, .int .i64 un, .int .i64 ms, .int .i64 rm, .int .i64 mo, .bool na, .bool true] 23)).alloc (.cells #[.int .i64 0, .int .i64 0, .bool false, .bool false] 25)) w.heap.size (.int .i64 nx) (.int .i64 en) (.bool false) (.bool false) (.int .i64 ed) (.int .i64 un) (.int .i64 ms) (.int .i64 rm) (.int .i64 mo) (.bool na) (.bool true)) := (BoxW.new w (.int .i64 nx) (.int .i64 en) (.bool false) (.bool false) (.int .i64 ed) (.int .i64 un) (.int .i64 ms) (.int .i64 rm) (.int .i64 mo) (.bool na) (.bool true)).alloc _
  have HY : Hid (BoxR ((w.alloc (.cells #[.int .i64 nx, .int .i64 en, .bool false, .bool false, .int .i64 ed, .int .i64 un, .int .i64 ms, .int .i64 rm, .int .i64 mo, .bool na, .bool true] 23)).alloc (.cells #[.int .i64 0, .int .i64 0, .bool false, .bool false] 25)) (w.heap.size + 1) (.int .i64 0) (.int .i64 0) (.bool false) (.bool false)) := by
    have := BoxR.new (w.alloc (.cells #[.int .i64 nx, .int .i64 en, .bool false, .bool false, .int .i64 ed, .int .i64 un, .int .i64 ms, .int .i64 rm, .int .i64 mo, .bool na, .bool true] 23)) (.int .i64 0) (.int .i64 0) (.bool false) (.bool false)
    rw [World.size_alloc] at this
    exact this
  have HB : Hid (Below w.heap.size w ((w.alloc (.cells #[.int .i64 nx, .int .i64 en, .bool false, .bool false, .int .i64 ed, .int .i64 un, .int .i64 ms, .int .i64 rm, .int .i64 mo, .bool na, .bool true] 23)).alloc (.cells #[.int .i64 0, .int .i64 0, .bool false, .bool false] 25))) := below_more (below_more (Below.refl _ _) _) _
  have c1 : ∀ W, Calls Try.prog 11 #[.agg #[.int .i64 nx, .int .i64 en, .bool false, .bool false, .int .i64 ed, .int .i64 un, .int .i64 ms, .int .i64 rm, .int .i64 mo, .bool na, .bool true]] W fun e w' => e = .returned (.int .i64 0) ∧ Below W.heap.size W w' := fun W => refChk_is nx en false false ed un ms rm mo na true W hI 0 (by rw [chkI, if_pos hok])
  obtain ⟨u, hu⟩ : ∃ u, max 0 (ed - nx) = u := ⟨_, rfl⟩
  have c2 : ∀ W, Calls Try.prog 13 #[.agg #[.int .i64 nx, .int .i64 en, .bool false, .bool false, .int .i64 ed, .int .i64 un, .int .i64 ms, .int .i64 rm, .int .i64 mo, .bool na, .bool true]] W fun e w' => e = .returned (.int .i64 u) ∧ Below W.heap.size W w' := fun W => refUse_is nx en false false ed un ms rm mo na true W hI u ((use_ok hok).trans hu)
  have hh := ok_out hok
  have hh2 : -9223372036854775808 ≤ en - nx ∧ en - nx ≤ 9223372036854775807 ∧ -9223372036854775808 ≤ nx + 1 ∧ nx + 1 ≤ 9223372036854775807 := by omega

  have d1 : (en - nx == 0) = true := by simp; omega
  have d2 : decide (nx < en) = false := by simp; omega

  clear hI hok hh hu he
  go_enter Try.func9, Try.ntmps9
  go_wp2_with fail
  refine (c1 _).mono ?_
  rintro e w1 ⟨rfl, hB1⟩
  have HF : Hid (BoxR w1 (w.heap.size + 1) (.int .i64 0) (.int .i64 0) (.bool false) (.bool false) ∧ Below w.heap.size w w1 ∧ BoxW w1 w.heap.size (.int .i64 nx) (.int .i64 en) (.bool false) (.bool false) (.int .i64 ed) (.int .i64 un) (.int .i64 ms) (.int .i64 rm) (.int .i64 mo) (.bool na) (.bool true)) := ⟨HY.out.later hB1, Below.on HB.out hB1, HX.out.later hB1⟩
  clear HX HY HB hB1 c1

  obtain ⟨k0, k1, k2, k3, k4, k5, k6, k7, k8, k9, k10⟩ := HF.out.2.2.cells
  go_wp2_with fail
  refine (c2 _).mono ?_
  rintro e w2 ⟨rfl, hB2⟩
  have HE : Hid (BoxR w2 (w.heap.size + 1) (.int .i64 0) (.int .i64 0) (.bool false) (.bool false) ∧ Below w.heap.size w w2 ∧ BoxW w2 w.heap.size (.int .i64 nx) (.int .i64 en) (.bool false) (.bool false) (.int .i64 ed) (.int .i64 un) (.int .i64 ms) (.int .i64 rm) (.int .i64 mo) (.bool na) (.bool true)) := ⟨HF.out.1.later hB2, Below.on HF.out.2.1 hB2, HF.out.2.2.later hB2⟩
  have hlt : w.heap.size + 1 < w2.heap.size := HE.out.1.lt
  have hlt0 : w.heap.size < w2.heap.size := by omega
  clear k0 k1 k2 k3 k4 k5 k6 k7 k8 k9 k10 HF hB2 c2
  obtain ⟨k0, k1, k2, k3, k4, k5, k6, k7, k8, k9, k10⟩ := HE.out.2.2.cells
  obtain ⟨j0, j1, j2, j3⟩ := HE.out.1.cells
  obtain ⟨i0, i1, i2, i3⟩ := HE.out.1.frozen
  go_wp2_with fail
  refine bodyPost_ret (results_box3 rfl _ _ (w.heap.size + 1) _ _ _ _ rfl ((HE.out.1.put _ _ _ _).alloc _)) rfl ?_
  exact ⟨rfl, below_more (below_put HE.out.2.1 _ (Nat.le_succ _) _ _ _ _) _⟩

set_option maxRecDepth 100000 in
set_option maxHeartbeats 4000000 in
theorem ref_end (nx en : Int) (ed un ms rm mo : Int) (na : Bool) (w : World) (hI : Ints nx en ed un ms rm mo) (hok : okW nx en true false ed un ms mo = true) (he : nx = en) (hl : nx < ed) :
    Calls Try.prog 9 #[.agg #[.int .i64 nx, .int .i64 en, .bool true, .bool false, .int .i64 ed, .int .i64 un, .int .i64 ms, .int .i64 rm, .int .i64 mo, .bool na, .bool false]] w fun e w' => e = .returned (.tuple #[.agg #[.int .i64 nx, .int .i64 nx, .bool true, .bool false], .bool true, .int .i64 0]) ∧ Below w.heap.size w w'  := by
  have HX : Hid (BoxW ((w.alloc (.cells #[.int .i64 nx, .int .i64 en, .bool true, .bool false, .int .i64 ed, .int .i64 un, .int .i64 ms, .int .i64 rm, .int .i64 mo, .bool na, .bool false] 23)).alloc (.cells #[.int .i64 0, .int .i64 0, .bool false, .bool false] 25)) w.heap.size (.int .i64 nx) (.int .i64 en) (.bool true) (.bool false) (.int .i64 ed) (.int .i64 un) (.int .i64 ms) (.int .i64 rm) (.int .i64 mo) (.bool na) (.bool false)) := (BoxW.new w (.int .i64 nx) (.int .i64 en) (.bool true) (.bool false) (.int .i64 ed) (.int .i64 un) (.int .i64 ms) (.int .i64 rm) (.int .i64 mo) (.bool na) (.bool false)).alloc _
  have HY : Hid (BoxR ((w.alloc (.cells #[.int .i64 nx, .int .i64 en, .bool true, .bool false, .int .i64 ed, .int .i64 un, .int .i64 ms, .int .i64 rm, .int .i64 mo, .bool na, .bool false] 23)).alloc (.cells #[.int .i64 0, .int .i64 0, .bool false, .bool false] 25)) (w.heap.size + 1) (.int .i64 0) (.int .i64 0) (.bool false) (.bool false)) := by
    have := BoxR.new (w.alloc (.cells #[.int .i64 nx, .int .i64 en, .bool true, .bool false, .int .i64 ed, .int .i64 un, .int .i64 ms, .int .i64 rm, .int .i64 mo, .bool na, .bool false] 23)) (.int .i64 0) (.int .i64 0) (.bool false) (.bool false)
    rw [World.size_alloc] at this
    exact this
  have HB : Hid (Below w.heap.size w ((w.alloc (.cells #[.int .i64 nx, .int .i64 en, .bool true, .bool false, .int .i64 ed, .int .i64 un, .int .i64 ms, .int .i64 rm, .int .i64 mo, .bool na, .bool false] 23)).alloc (.cells #[.int .i64 0, .int .i64 0, .bool false, .bool false] 25))) := below_more (below_more (Below.refl _ _) _) _
  have c1 : ∀ W, Calls Try.prog 11 #[.agg #[.int .i64 nx, .int .i64 en, .bool true, .bool false, .int .i64 ed, .int .i64 un, .int .i64 ms, .int .i64 rm, .int .i64 mo, .bool na, .bool false]] W fun e w' => e = .returned (.int .i64 0) ∧ Below W.heap.size W w' := fun W => refChk_is nx en true false ed un ms rm mo na false W hI 0 (by rw [chkI, if_pos hok])
  obtain ⟨u, hu⟩ : ∃ u, max 0 (ed - nx) = u := ⟨_, rfl⟩
  have c2 : ∀ W, Calls Try.prog 13 #[.agg #[.int .i64 nx, .int .i64 en, .bool true, .bool false, .int .i64 ed, .int .i64 un, .int .i64 ms, .int .i64 rm, .int .i64 mo, .bool na, .bool false]] W fun e w' => e = .returned (.int .i64 u) ∧ Below W.heap.size W w' := fun W => refUse_is nx en true false ed un ms rm mo na false W hI u ((use_ok hok).trans hu)
  have hh := ok_out hok
  have hh2 : -9223372036854775808 ≤ en - nx ∧ en - nx ≤ 9223372036854775807 ∧ -9223372036854775808 ≤ nx + 1 ∧ nx + 1 ≤ 9223372036854775807 := by omega

  have d1 : (en - nx == 0) = true := by simp; omega
  have d2 : decide (nx < en) = false := by simp; omega

  have d3 : decide (1 ≤ u) = true := by simp; omega
  clear hI hok hh hu he hl
  go_enter Try.func9, Try.ntmps9
  go_wp2_with fail
  refine (c1 _).mono ?_
  rintro e w1 ⟨rfl, hB1⟩
  have HF : Hid (BoxR w1 (w.heap.size + 1) (.int .i64 0) (.int .i64 0) (.bool false) (.bool false) ∧ Below w.heap.size w w1 ∧ BoxW w1 w.heap.size (.int .i64 nx) (.int .i64 en) (.bool true) (.bool false) (.int .i64 ed) (.int .i64 un) (.int .i64 ms) (.int .i64 rm) (.int .i64 mo) (.bool na) (.bool false)) := ⟨HY.out.later hB1, Below.on HB.out hB1, HX.out.later hB1⟩
  clear HX HY HB hB1 c1

  obtain ⟨k0, k1, k2, k3, k4, k5, k6, k7, k8, k9, k10⟩ := HF.out.2.2.cells
  go_wp2_with fail
  refine (c2 _).mono ?_
  rintro e w2 ⟨rfl, hB2⟩
  have HE : Hid (BoxR w2 (w.heap.size + 1) (.int .i64 0) (.int .i64 0) (.bool false) (.bool false) ∧ Below w.heap.size w w2 ∧ BoxW w2 w.heap.size (.int .i64 nx) (.int .i64 en) (.bool true) (.bool false) (.int .i64 ed) (.int .i64 un) (.int .i64 ms) (.int .i64 rm) (.int .i64 mo) (.bool na) (.bool false)) := ⟨HF.out.1.later hB2, Below.on HF.out.2.1 hB2, HF.out.2.2.later hB2⟩
  have hlt : w.heap.size + 1 < w2.heap.size := HE.out.1.lt
  have hlt0 : w.heap.size < w2.heap.size := by omega
  clear k0 k1 k2 k3 k4 k5 k6 k7 k8 k9 k10 HF hB2 c2
  obtain ⟨k0, k1, k2, k3, k4, k5, k6, k7, k8, k9, k10⟩ := HE.out.2.2.cells
  obtain ⟨j0, j1, j2, j3⟩ := HE.out.1.cells
  obtain ⟨i0, i1, i2, i3⟩ := HE.out.1.frozen
  go_wp2_with fail
  refine bodyPost_ret (results_box3 rfl _ _ (w.heap.size + 1) _ _ _ _ rfl ((HE.out.1.put _ _ _ _).alloc _)) rfl ?_
  exact ⟨rfl, below_more (below_put HE.out.2.1 _ (Nat.le_succ _) _ _ _ _) _⟩

set_option maxRecDepth 100000 in
set_option maxHeartbeats 4000000 in
theorem ref_shut (nx en : Int) (ed un ms rm mo : Int) (na : Bool) (w : World) (hI : Ints nx en ed un ms rm mo) (hok : okW nx en true false ed un ms mo = true) (he : nx = en) (hl : ¬ nx < ed) :
    Calls Try.prog 9 #[.agg #[.int .i64 nx, .int .i64 en, .bool true, .bool false, .int .i64 ed, .int .i64 un, .int .i64 ms, .int .i64 rm, .int .i64 mo, .bool na, .bool false]] w fun e w' => e = .returned (.tuple #[.agg #[.int .i64 0, .int .i64 0, .bool false, .bool false], .bool false, .int .i64 0]) ∧ Below w.heap.size w w'  := by
  have HX : Hid (BoxW ((w.alloc (.cells #[.int .i64 nx, .int .i64 en, .bool true, .bool false, .int .i64 ed, .int .i64 un, .int .i64 ms, .int .i64 rm, .int .i64 mo, .bool na, .bool false] 23)).alloc (.cells #[.int .i64 0, .int .i64 0, .bool false, .bool false] 25)) w.heap.size (.int .i64 nx) (.int .i64 en) (.bool true) (.bool false) (.int .i64 ed) (.int .i64 un) (.int .i64 ms) (.int .i64 rm) (.int .i64 mo) (.bool na) (.bool false)) := (BoxW.new w (.int .i64 nx) (.int .i64 en) (.bool true) (.bool false) (.int .i64 ed) (.int .i64 un) (.int .i64 ms) (.int .i64 rm) (.int .i64 mo) (.bool na) (.bool false)).alloc _
  have HY : Hid (BoxR ((w.alloc (.cells #[.int .i64 nx, .int .i64 en, .bool true, .bool false, .int .i64 ed, .int .i64 un, .int .i64 ms, .int .i64 rm, .int .i64 mo, .bool na, .bool false] 23)).alloc (.cells #[.int .i64 0, .int .i64 0, .bool false, .bool false] 25)) (w.heap.size + 1) (.int .i64 0) (.int .i64 0) (.bool false) (.bool false)) := by
    have := BoxR.new (w.alloc (.cells #[.int .i64 nx, .int .i64 en, .bool true, .bool false, .int .i64 ed, .int .i64 un, .int .i64 ms, .int .i64 rm, .int .i64 mo, .bool na, .bool false] 23)) (.int .i64 0) (.int .i64 0) (.bool false) (.bool false)
    rw [World.size_alloc] at this
    exact this
  have HB : Hid (Below w.heap.size w ((w.alloc (.cells #[.int .i64 nx, .int .i64 en, .bool true, .bool false, .int .i64 ed, .int .i64 un, .int .i64 ms, .int .i64 rm, .int .i64 mo, .bool na, .bool false] 23)).alloc (.cells #[.int .i64 0, .int .i64 0, .bool false, .bool false] 25))) := below_more (below_more (Below.refl _ _) _) _
  have c1 : ∀ W, Calls Try.prog 11 #[.agg #[.int .i64 nx, .int .i64 en, .bool true, .bool false, .int .i64 ed, .int .i64 un, .int .i64 ms, .int .i64 rm, .int .i64 mo, .bool na, .bool false]] W fun e w' => e = .returned (.int .i64 0) ∧ Below W.heap.size W w' := fun W => refChk_is nx en true false ed un ms rm mo na false W hI 0 (by rw [chkI, if_pos hok])
  obtain ⟨u, hu⟩ : ∃ u, max 0 (ed - nx) = u := ⟨_, rfl⟩
  have c2 : ∀ W, Calls Try.prog 13 #[.agg #[.int .i64 nx, .int .i64 en, .bool true, .bool false, .int .i64 ed, .int .i64 un, .int .i64 ms, .int .i64 rm, .int .i64 mo, .bool na, .bool false]] W fun e w' => e = .returned (.int .i64 u) ∧ Below W.heap.size W w' := fun W => refUse_is nx en true false ed un ms rm mo na false W hI u ((use_ok hok).trans hu)
  have hh := ok_out hok
  have hh2 : -9223372036854775808 ≤ en - nx ∧ en - nx ≤ 9223372036854775807 ∧ -9223372036854775808 ≤ nx + 1 ∧ nx + 1 ≤ 9223372036854775807 := by omega

  have d1 : (en - nx == 0) = true := by simp; omega
  have d2 : decide (nx < en) = false := by simp; omega

  have d3 : decide (1 ≤ u) = false := by simp; omega
  clear hI hok hh hu he hl
  go_enter Try.func9, Try.ntmps9
  go_wp2_with fail
  refine (c1 _).mono ?_
  rintro e w1 ⟨rfl, hB1⟩
  have HF : Hid (BoxR w1 (w.heap.size + 1) (.int .i64 0) (.int .i64 0) (.bool false) (.bool false) ∧ Below w.heap.size w w1 ∧ BoxW w1 w.heap.size (.int .i64 nx) (.int .i64 en) (.bool true) (.bool false) (.int .i64 ed) (.int .i64 un) (.int .i64 ms) (.int .i64 rm) (.int .i64 mo) (.bool na) (.bool false)) := ⟨HY.out.later hB1, Below.on HB.out hB1, HX.out.later hB1⟩
  clear HX HY HB hB1 c1

  obtain ⟨k0, k1, k2, k3, k4, k5, k6, k7, k8, k9, k10⟩ := HF.out.2.2.cells
  go_wp2_with fail
  refine (c2 _).mono ?_
  rintro e w2 ⟨rfl, hB2⟩
  have HE : Hid (BoxR w2 (w.heap.size + 1) (.int .i64 0) (.int .i64 0) (.bool false) (.bool false) ∧ Below w.heap.size w w2 ∧ BoxW w2 w.heap.size (.int .i64 nx) (.int .i64 en) (.bool true) (.bool false) (.int .i64 ed) (.int .i64 un) (.int .i64 ms) (.int .i64 rm) (.int .i64 mo) (.bool na) (.bool false)) := ⟨HF.out.1.later hB2, Below.on HF.out.2.1 hB2, HF.out.2.2.later hB2⟩
  have hlt : w.heap.size + 1 < w2.heap.size := HE.out.1.lt
  have hlt0 : w.heap.size < w2.heap.size := by omega
  clear k0 k1 k2 k3 k4 k5 k6 k7 k8 k9 k10 HF hB2 c2
  obtain ⟨k0, k1, k2, k3, k4, k5, k6, k7, k8, k9, k10⟩ := HE.out.2.2.cells
  obtain ⟨j0, j1, j2, j3⟩ := HE.out.1.cells
  obtain ⟨i0, i1, i2, i3⟩ := HE.out.1.frozen
  go_wp2_with fail
  refine bodyPost_ret (results_box3 rfl _ _ (w.heap.size + 1) _ _ _ _ rfl ((HE.out.1.put _ _ _ _).alloc _)) rfl ?_
  exact ⟨rfl, below_more (below_put HE.out.2.1 _ (Nat.le_succ _) _ _ _ _) _⟩

set_option maxRecDepth 100000 in
set_option maxHeartbeats 4000000 in
theorem ref_none (nx en : Int) (ed un ms rm mo : Int) (na : Bool) (w : World) (hI : Ints nx en ed un ms rm mo) (hok : okW nx en false false ed un ms mo = true) (he : nx = en) :
    Calls Try.prog 9 #[.agg #[.int .i64 nx, .int .i64 en, .bool false, .bool false, .int .i64 ed, .int .i64 un, .int .i64 ms, .int .i64 rm, .int .i64 mo, .bool na, .bool false]] w fun e w' => e = .returned (.tuple #[.agg #[.int .i64 0, .int .i64 0, .bool false, .bool false], .bool false, .int .i64 0]) ∧ Below w.heap.size w w'  := by
  have HX : Hid (BoxW ((w.alloc (.cells #[.int .i64 nx, .int .i64 en, .bool false, .bool false, .int .i64 ed, .int .i64 un, .int .i64 ms, .int .i64 rm, .int .i64 mo, .bool na, .bool false] 23)).alloc (.cells #[.int .i64 0, .int .i64 0, .bool false, .bool false] 25)) w.heap.size (.int .i64 nx) (.int .i64 en) (.bool false) (.bool false) (.int .i64 ed) (.int .i64 un) (.int .i64 ms) (.int .i64 rm) (.int .i64 mo) (.bool na) (.bool false)) := (BoxW.new w (.int .i64 nx) (.int .i64 en) (.bool false) (.bool false) (.int .i64 ed) (.int .i64 un) (.int .i64 ms) (.int .i64 rm) (.int .i64 mo) (.bool na) (.bool false)).alloc _
  have HY : Hid (BoxR ((w.alloc (.cells #[.int .i64 nx, .int .i64 en, .bool false, .bool false, .int .i64 ed, .int .i64 un, .int .i64 ms, .int .i64 rm, .int .i64 mo, .bool na, .bool false] 23)).alloc (.cells #[.int .i64 0, .int .i64 0, .bool false, .bool false] 25)) (w.heap.size + 1) (.int .i64 0) (.int .i64 0) (.bool false) (.bool false)) := by
    have := BoxR.new (w.alloc (.cells #[.int .i64 nx, .int .i64 en, .bool false, .bool false, .int .i64 ed, .int .i64 un, .int .i64 ms, .int .i64 rm, .int .i64 mo, .bool na, .bool false] 23)) (.int .i64 0) (.int .i64 0) (.bool false) (.bool false)
    rw [World.size_alloc] at this
    exact this
  have HB : Hid (Below w.heap.size w ((w.alloc (.cells #[.int .i64 nx, .int .i64 en, .bool false, .bool false, .int .i64 ed, .int .i64 un, .int .i64 ms, .int .i64 rm, .int .i64 mo, .bool na, .bool false] 23)).alloc (.cells #[.int .i64 0, .int .i64 0, .bool false, .bool false] 25))) := below_more (below_more (Below.refl _ _) _) _
  have c1 : ∀ W, Calls Try.prog 11 #[.agg #[.int .i64 nx, .int .i64 en, .bool false, .bool false, .int .i64 ed, .int .i64 un, .int .i64 ms, .int .i64 rm, .int .i64 mo, .bool na, .bool false]] W fun e w' => e = .returned (.int .i64 0) ∧ Below W.heap.size W w' := fun W => refChk_is nx en false false ed un ms rm mo na false W hI 0 (by rw [chkI, if_pos hok])
  obtain ⟨u, hu⟩ : ∃ u, max 0 (ed - nx) = u := ⟨_, rfl⟩
  have c2 : ∀ W, Calls Try.prog 13 #[.agg #[.int .i64 nx, .int .i64 en, .bool false, .bool false, .int .i64 ed, .int .i64 un, .int .i64 ms, .int .i64 rm, .int .i64 mo, .bool na, .bool false]] W fun e w' => e = .returned (.int .i64 u) ∧ Below W.heap.size W w' := fun W => refUse_is nx en false false ed un ms rm mo na false W hI u ((use_ok hok).trans hu)
  have hh := ok_out hok
  have hh2 : -9223372036854775808 ≤ en - nx ∧ en - nx ≤ 9223372036854775807 ∧ -9223372036854775808 ≤ nx + 1 ∧ nx + 1 ≤ 9223372036854775807 := by omega

  have d1 : (en - nx == 0) = true := by simp; omega
  have d2 : decide (nx < en) = false := by simp; omega

  clear hI hok hh hu he
  go_enter Try.func9, Try.ntmps9
  go_wp2_with fail
  refine (c1 _).mono ?_
  rintro e w1 ⟨rfl, hB1⟩
  have HF : Hid (BoxR w1 (w.heap.size + 1) (.int .i64 0) (.int .i64 0) (.bool false) (.bool false) ∧ Below w.heap.size w w1 ∧ BoxW w1 w.heap.size (.int .i64 nx) (.int .i64 en) (.bool false) (.bool false) (.int .i64 ed) (.int .i64 un) (.int .i64 ms) (.int .i64 rm) (.int .i64 mo) (.bool na) (.bool false)) := ⟨HY.out.later hB1, Below.on HB.out hB1, HX.out.later hB1⟩
  clear HX HY HB hB1 c1

  obtain ⟨k0, k1, k2, k3, k4, k5, k6, k7, k8, k9, k10⟩ := HF.out.2.2.cells
  go_wp2_with fail
  refine (c2 _).mono ?_
  rintro e w2 ⟨rfl, hB2⟩
  have HE : Hid (BoxR w2 (w.heap.size + 1) (.int .i64 0) (.int .i64 0) (.bool false) (.bool false) ∧ Below w.heap.size w w2 ∧ BoxW w2 w.heap.size (.int .i64 nx) (.int .i64 en) (.bool false) (.bool false) (.int .i64 ed) (.int .i64 un) (.int .i64 ms) (.int .i64 rm) (.int .i64 mo) (.bool na) (.bool false)) := ⟨HF.out.1.later hB2, Below.on HF.out.2.1 hB2, HF.out.2.2.later hB2⟩
  have hlt : w.heap.size + 1 < w2.heap.size := HE.out.1.lt
  have hlt0 : w.heap.size < w2.heap.size := by omega
  clear k0 k1 k2 k3 k4 k5 k6 k7 k8 k9 k10 HF hB2 c2
  obtain ⟨k0, k1, k2, k3, k4, k5, k6, k7, k8, k9, k10⟩ := HE.out.2.2.cells
  obtain ⟨j0, j1, j2, j3⟩ := HE.out.1.cells
  obtain ⟨i0, i1, i2, i3⟩ := HE.out.1.frozen
  go_wp2_with fail
  refine bodyPost_ret (results_box3 rfl _ _ (w.heap.size + 1) _ _ _ _ rfl ((HE.out.1.put _ _ _ _).alloc _)) rfl ?_
  exact ⟨rfl, below_more (below_put HE.out.2.1 _ (Nat.le_succ _) _ _ _ _) _⟩
end Go.Proofs.Ytmfbcdjedegofaa
