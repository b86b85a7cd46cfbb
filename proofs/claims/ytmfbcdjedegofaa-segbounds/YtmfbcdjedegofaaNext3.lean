/- Next, new data. -/
import Derived.Test.YtmfbcdjedegofaaNewY
import Derived.Test.YtmfbcdjedegofaaBase2
namespace Go.Proofs.Ytmfbcdjedegofaa
open Go.ChangeShapes Go.WideShapes Go.ChangeAt Go.RowKit
set_option linter.unusedVariables false


set_option maxRecDepth 100000 in
set_option maxHeartbeats 4000000 in
theorem next_new (nx en : Int) (cl : Bool) (ed un ms rm mo : Int) (na : Bool) (w : World) (hI : Ints nx en ed un ms rm mo) (hok : okW nx en cl false ed un ms mo = true) (he : ¬ nx = en) (hg : newG nx en cl ed un ms rm mo na = true) (C : Ct) (hC : newC nx en cl ed ms (leastI nx en ed ms) = C) :
    Calls Try.prog 8 #[.agg #[.int .i64 nx, .int .i64 en, .bool cl, .bool false, .int .i64 ed, .int .i64 un, .int .i64 ms, .int .i64 rm, .int .i64 mo, .bool na, .bool false]] w fun e w' => e = .returned (.tuple #[.agg #[.int .i64 C.f, .int .i64 C.t, .bool C.n, .bool C.p], .bool true, .int .i64 0]) ∧ Below w.heap.size w w'  := by
  have HX : Hid (BoxW ((w.alloc (.cells #[.int .i64 nx, .int .i64 en, .bool cl, .bool false, .int .i64 ed, .int .i64 un, .int .i64 ms, .int .i64 rm, .int .i64 mo, .bool na, .bool false] 23)).alloc (.cells #[.int .i64 0, .int .i64 0, .bool false, .bool false] 25)) w.heap.size (.int .i64 nx) (.int .i64 en) (.bool cl) (.bool false) (.int .i64 ed) (.int .i64 un) (.int .i64 ms) (.int .i64 rm) (.int .i64 mo) (.bool na) (.bool false)) := (BoxW.new w (.int .i64 nx) (.int .i64 en) (.bool cl) (.bool false) (.int .i64 ed) (.int .i64 un) (.int .i64 ms) (.int .i64 rm) (.int .i64 mo) (.bool na) (.bool false)).alloc _
  have HY : Hid (BoxR ((w.alloc (.cells #[.int .i64 nx, .int .i64 en, .bool cl, .bool false, .int .i64 ed, .int .i64 un, .int .i64 ms, .int .i64 rm, .int .i64 mo, .bool na, .bool false] 23)).alloc (.cells #[.int .i64 0, .int .i64 0, .bool false, .bool false] 25)) (w.heap.size + 1) (.int .i64 0) (.int .i64 0) (.bool false) (.bool false)) := by
    have := BoxR.new (w.alloc (.cells #[.int .i64 nx, .int .i64 en, .bool cl, .bool false, .int .i64 ed, .int .i64 un, .int .i64 ms, .int .i64 rm, .int .i64 mo, .bool na, .bool false] 23)) (.int .i64 0) (.int .i64 0) (.bool false) (.bool false)
    rw [World.size_alloc] at this
    exact this
  have HB : Hid (Below w.heap.size w ((w.alloc (.cells #[.int .i64 nx, .int .i64 en, .bool cl, .bool false, .int .i64 ed, .int .i64 un, .int .i64 ms, .int .i64 rm, .int .i64 mo, .bool na, .bool false] 23)).alloc (.cells #[.int .i64 0, .int .i64 0, .bool false, .bool false] 25))) := below_more (below_more (Below.refl _ _) _) _
  have c1 : ∀ W, Calls Try.prog 10 #[.agg #[.int .i64 nx, .int .i64 en, .bool cl, .bool false, .int .i64 ed, .int .i64 un, .int .i64 ms, .int .i64 rm, .int .i64 mo, .bool na, .bool false]] W fun e w' => e = .returned (.int .i64 0) ∧ Below W.heap.size W w' := fun W => chk_is nx en cl false ed un ms rm mo na false W hI 0 (by rw [chkI, if_pos hok])
  have c2 : ∀ W, Calls Try.prog 17 #[.agg #[.int .i64 nx, .int .i64 en, .bool cl, .bool false, .int .i64 ed, .int .i64 un, .int .i64 ms, .int .i64 rm, .int .i64 mo, .bool na, .bool false]] W fun e w' => e = .returned (.tuple #[.agg #[.int .i64 C.f, .int .i64 C.t, .bool C.n, .bool C.p], .bool true]) ∧ Below W.heap.size W w' := fun W => new_yes nx en cl false ed un ms rm mo na false W hI hok hg C hC
  clear hI hok hg hC
  go_enter Try.func8, Try.ntmps8
  go_wp2_with fail
  refine (c1 _).mono ?_
  rintro e w1 ⟨rfl, hB1⟩
  have HF : Hid (BoxR w1 (w.heap.size + 1) (.int .i64 0) (.int .i64 0) (.bool false) (.bool false) ∧ Below w.heap.size w w1 ∧ BoxW w1 w.heap.size (.int .i64 nx) (.int .i64 en) (.bool cl) (.bool false) (.int .i64 ed) (.int .i64 un) (.int .i64 ms) (.int .i64 rm) (.int .i64 mo) (.bool na) (.bool false)) := ⟨HY.out.later hB1, Below.on HB.out hB1, HX.out.later hB1⟩
  clear HX HY HB hB1 c1

  obtain ⟨W2, hW2⟩ : ∃ W2, w1.alloc (.cells #[.int .i64 0, .int .i64 0, .bool false, .bool false] 25) = W2 := ⟨_, rfl⟩
  have HG : Hid (BoxR W2 (w.heap.size + 1) (.int .i64 0) (.int .i64 0) (.bool false) (.bool false) ∧ Below w.heap.size w W2 ∧ BoxW W2 w.heap.size (.int .i64 nx) (.int .i64 en) (.bool cl) (.bool false) (.int .i64 ed) (.int .i64 un) (.int .i64 ms) (.int .i64 rm) (.int .i64 mo) (.bool na) (.bool false) ∧ BoxR W2 w1.heap.size (.int .i64 0) (.int .i64 0) (.bool false) (.bool false) ∧ w.heap.size + 1 < w1.heap.size) := by
    rw [← hW2]
    exact ⟨HF.out.1.alloc _, below_more HF.out.2.1 _, HF.out.2.2.alloc _, BoxR.new _ _ _ _ _, HF.out.1.lt⟩

  go_upto_region 7 with fail
  obtain ⟨j0, j1, j2, j3⟩ := HG.out.1.cells
  obtain ⟨i0, i1, i2, i3⟩ := HG.out.1.frozen
  obtain ⟨k0, k1, k2, k3, k4, k5, k6, k7, k8, k9, k10⟩ := HG.out.2.2.1.cells
  obtain ⟨l0, l1, l2, l3⟩ := HG.out.2.2.2.1.cells
  obtain ⟨m0, m1, m2, m3⟩ := HG.out.2.2.2.1.frozen
  clear HF
  try rw [hW2]
  clear hW2

  go_wp2_with fail
  refine (c2 W2).mono ?_
  rintro e w3 ⟨rfl, hB3⟩
  have HK : Hid (BoxR w3 (w.heap.size + 1) (.int .i64 0) (.int .i64 0) (.bool false) (.bool false) ∧ Below w.heap.size w w3 ∧ BoxR w3 w1.heap.size (.int .i64 0) (.int .i64 0) (.bool false) (.bool false) ∧ w.heap.size + 1 < w1.heap.size) := ⟨HG.out.1.later hB3, Below.on HG.out.2.1 hB3, HG.out.2.2.2.1.later hB3, HG.out.2.2.2.2⟩
  have hlt := HG.out.2.2.2.2
  clear k0 k1 k2 k3 k4 k5 k6 k7 k8 k9 k10 j0 j1 j2 j3 i0 i1 i2 i3 l0 l1 l2 l3 m0 m1 m2 m3 HG hB3 c2
  obtain ⟨j0, j1, j2, j3⟩ := HK.out.1.cells
  obtain ⟨i0, i1, i2, i3⟩ := HK.out.1.frozen
  obtain ⟨l0, l1, l2, l3⟩ := HK.out.2.2.1.cells
  obtain ⟨m0, m1, m2, m3⟩ := HK.out.2.2.1.frozen
  go_wp2_with fail
  refine bodyPost_ret (results_box3 rfl _ _ (w.heap.size + 1) _ _ _ _ rfl ((HK.out.1.putAside w1.heap.size (by omega) _ _ _ _).put _ _ _ _)) rfl ?_
  exact ⟨rfl, below_put (below_put HK.out.2.1 _ (by omega) _ _ _ _) _ (Nat.le_succ _) _ _ _ _⟩

set_option maxRecDepth 100000 in
set_option maxHeartbeats 4000000 in
theorem next_wait (nx en : Int) (cl : Bool) (ed un ms rm mo : Int) (na : Bool) (w : World) (hI : Ints nx en ed un ms rm mo) (hok : okW nx en cl false ed un ms mo = true) (he : ¬ nx = en) (hg : newG nx en cl ed un ms rm mo na = false) :
    Calls Try.prog 8 #[.agg #[.int .i64 nx, .int .i64 en, .bool cl, .bool false, .int .i64 ed, .int .i64 un, .int .i64 ms, .int .i64 rm, .int .i64 mo, .bool na, .bool false]] w fun e w' => e = .returned (.tuple #[.agg #[.int .i64 0, .int .i64 0, .bool false, .bool false], .bool false, .int .i64 0]) ∧ Below w.heap.size w w'  := by
  have HX : Hid (BoxW ((w.alloc (.cells #[.int .i64 nx, .int .i64 en, .bool cl, .bool false, .int .i64 ed, .int .i64 un, .int .i64 ms, .int .i64 rm, .int .i64 mo, .bool na, .bool false] 23)).alloc (.cells #[.int .i64 0, .int .i64 0, .bool false, .bool false] 25)) w.heap.size (.int .i64 nx) (.int .i64 en) (.bool cl) (.bool false) (.int .i64 ed) (.int .i64 un) (.int .i64 ms) (.int .i64 rm) (.int .i64 mo) (.bool na) (.bool false)) := (BoxW.new w (.int .i64 nx) (.int .i64 en) (.bool cl) (.bool false) (.int .i64 ed) (.int .i64 un) (.int .i64 ms) (.int .i64 rm) (.int .i64 mo) (.bool na) (.bool false)).alloc _
  have HY : Hid (BoxR ((w.alloc (.cells #[.int .i64 nx, .int .i64 en, .bool cl, .bool false, .int .i64 ed, .int .i64 un, .int .i64 ms, .int .i64 rm, .int .i64 mo, .bool na, .bool false] 23)).alloc (.cells #[.int .i64 0, .int .i64 0, .bool false, .bool false] 25)) (w.heap.size + 1) (.int .i64 0) (.int .i64 0) (.bool false) (.bool false)) := by
    have := BoxR.new (w.alloc (.cells #[.int .i64 nx, .int .i64 en, .bool cl, .bool false, .int .i64 ed, .int .i64 un, .int .i64 ms, .int .i64 rm, .int .i64 mo, .bool na, .bool false] 23)) (.int .i64 0) (.int .i64 0) (.bool false) (.bool false)
    rw [World.size_alloc] at this
    exact this
  have HB : Hid (Below w.heap.size w ((w.alloc (.cells #[.int .i64 nx, .int .i64 en, .bool cl, .bool false, .int .i64 ed, .int .i64 un, .int .i64 ms, .int .i64 rm, .int .i64 mo, .bool na, .bool false] 23)).alloc (.cells #[.int .i64 0, .int .i64 0, .bool false, .bool false] 25))) := below_more (below_more (Below.refl _ _) _) _
  have c1 : ∀ W, Calls Try.prog 10 #[.agg #[.int .i64 nx, .int .i64 en, .bool cl, .bool false, .int .i64 ed, .int .i64 un, .int .i64 ms, .int .i64 rm, .int .i64 mo, .bool na, .bool false]] W fun e w' => e = .returned (.int .i64 0) ∧ Below W.heap.size W w' := fun W => chk_is nx en cl false ed un ms rm mo na false W hI 0 (by rw [chkI, if_pos hok])
  have c2 : ∀ W, Calls Try.prog 17 #[.agg #[.int .i64 nx, .int .i64 en, .bool cl, .bool false, .int .i64 ed, .int .i64 un, .int .i64 ms, .int .i64 rm, .int .i64 mo, .bool na, .bool false]] W fun e w' => e = .returned (.tuple #[.agg #[.int .i64 0, .int .i64 0, .bool false, .bool false], .bool false]) ∧ Below W.heap.size W w' := fun W => new_no nx en cl false ed un ms rm mo na false W hI hok hg
  clear hI hok hg
  go_enter Try.func8, Try.ntmps8
  go_wp2_with fail
  refine (c1 _).mono ?_
  rintro e w1 ⟨rfl, hB1⟩
  have HF : Hid (BoxR w1 (w.heap.size + 1) (.int .i64 0) (.int .i64 0) (.bool false) (.bool false) ∧ Below w.heap.size w w1 ∧ BoxW w1 w.heap.size (.int .i64 nx) (.int .i64 en) (.bool cl) (.bool false) (.int .i64 ed) (.int .i64 un) (.int .i64 ms) (.int .i64 rm) (.int .i64 mo) (.bool na) (.bool false)) := ⟨HY.out.later hB1, Below.on HB.out hB1, HX.out.later hB1⟩
  clear HX HY HB hB1 c1

  obtain ⟨W2, hW2⟩ : ∃ W2, w1.alloc (.cells #[.int .i64 0, .int .i64 0, .bool false, .bool false] 25) = W2 := ⟨_, rfl⟩
  have HG : Hid (BoxR W2 (w.heap.size + 1) (.int .i64 0) (.int .i64 0) (.bool false) (.bool false) ∧ Below w.heap.size w W2 ∧ BoxW W2 w.heap.size (.int .i64 nx) (.int .i64 en) (.bool cl) (.bool false) (.int .i64 ed) (.int .i64 un) (.int .i64 ms) (.int .i64 rm) (.int .i64 mo) (.bool na) (.bool false) ∧ BoxR W2 w1.heap.size (.int .i64 0) (.int .i64 0) (.bool false) (.bool false) ∧ w.heap.size + 1 < w1.heap.size) := by
    rw [← hW2]
    exact ⟨HF.out.1.alloc _, below_more HF.out.2.1 _, HF.out.2.2.alloc _, BoxR.new _ _ _ _ _, HF.out.1.lt⟩

  go_upto_region 7 with fail
  obtain ⟨j0, j1, j2, j3⟩ := HG.out.1.cells
  obtain ⟨i0, i1, i2, i3⟩ := HG.out.1.frozen
  obtain ⟨k0, k1, k2, k3, k4, k5, k6, k7, k8, k9, k10⟩ := HG.out.2.2.1.cells
  obtain ⟨l0, l1, l2, l3⟩ := HG.out.2.2.2.1.cells
  obtain ⟨m0, m1, m2, m3⟩ := HG.out.2.2.2.1.frozen
  clear HF
  try rw [hW2]
  clear hW2

  go_wp2_with fail
  refine (c2 W2).mono ?_
  rintro e w3 ⟨rfl, hB3⟩
  have HK : Hid (BoxR w3 (w.heap.size + 1) (.int .i64 0) (.int .i64 0) (.bool false) (.bool false) ∧ Below w.heap.size w w3 ∧ BoxR w3 w1.heap.size (.int .i64 0) (.int .i64 0) (.bool false) (.bool false) ∧ w.heap.size + 1 < w1.heap.size) := ⟨HG.out.1.later hB3, Below.on HG.out.2.1 hB3, HG.out.2.2.2.1.later hB3, HG.out.2.2.2.2⟩
  have hlt := HG.out.2.2.2.2
  clear k0 k1 k2 k3 k4 k5 k6 k7 k8 k9 k10 j0 j1 j2 j3 i0 i1 i2 i3 l0 l1 l2 l3 m0 m1 m2 m3 HG hB3 c2
  obtain ⟨j0, j1, j2, j3⟩ := HK.out.1.cells
  obtain ⟨i0, i1, i2, i3⟩ := HK.out.1.frozen
  obtain ⟨l0, l1, l2, l3⟩ := HK.out.2.2.1.cells
  obtain ⟨m0, m1, m2, m3⟩ := HK.out.2.2.1.frozen
  go_wp2_with fail
  refine bodyPost_ret (results_box3 rfl _ _ (w.heap.size + 1) _ _ _ _ rfl ((HK.out.1.putAside w1.heap.size (by omega) _ _ _ _).put _ _ _ _)) rfl ?_
  exact ⟨rfl, below_put (below_put HK.out.2.1 _ (by omega) _ _ _ _) _ (Nat.le_succ _) _ _ _ _⟩
end Go.Proofs.Ytmfbcdjedegofaa
