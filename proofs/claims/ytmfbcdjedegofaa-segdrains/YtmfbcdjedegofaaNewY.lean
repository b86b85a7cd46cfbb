/- The contract of newData: a segment goes. -/
import Derived.Test.YtmfbcdjedegofaaNew
namespace Go.Proofs.Ytmfbcdjedegofaa
open Go.ChangeShapes Go.WideShapes Go.ChangeAt Go.RowKit
set_option linter.unusedVariables false


set_option maxRecDepth 100000 in
set_option maxHeartbeats 4000000 in
theorem new_yes (nx en : Int) (cl fi : Bool) (ed un ms rm mo : Int) (na fo : Bool) (w : World) (hI : Ints nx en ed un ms rm mo) (hok : okW nx en cl fi ed un ms mo = true) (hg' : newG nx en cl ed un ms rm mo na = true) (C : Ct) (hC : newC nx en cl ed ms (leastI nx en ed ms) = C) :
    Calls Try.prog 17 #[.agg #[.int .i64 nx, .int .i64 en, .bool cl, .bool fi, .int .i64 ed, .int .i64 un, .int .i64 ms, .int .i64 rm, .int .i64 mo, .bool na, .bool fo]] w fun e w' => e = .returned (.tuple #[.agg #[.int .i64 C.f, .int .i64 C.t, .bool C.n, .bool C.p], .bool true]) ∧ Below w.heap.size w w' := by
  have hh := ok_out hok
  obtain ⟨u, hu⟩ : ∃ u, max 0 (ed - nx) = u := ⟨_, rfl⟩
  obtain ⟨m, hm⟩ : ∃ m, leastI nx en ed ms = m := ⟨_, rfl⟩
  have hm' : min (min (en - nx) ms) u = m := by rw [← hm, leastI, hu]
  have c1 : ∀ W, Calls Try.prog 12 #[.agg #[.int .i64 nx, .int .i64 en, .bool cl, .bool fi, .int .i64 ed, .int .i64 un, .int .i64 ms, .int .i64 rm, .int .i64 mo, .bool na, .bool fo]] W fun e w' => e = .returned (.int .i64 u) ∧ Below W.heap.size W w' := fun W => use_is nx en cl fi ed un ms rm mo na fo W hI u ((use_ok hok).trans hu)
  obtain ⟨g, hgw⟩ : ∃ g, worthB nx en cl un ms mo na m = g := ⟨_, rfl⟩
  have c2 : ∀ W, Calls Try.prog 19 #[.agg #[.int .i64 nx, .int .i64 en, .bool cl, .bool fi, .int .i64 ed, .int .i64 un, .int .i64 ms, .int .i64 rm, .int .i64 mo, .bool na, .bool fo], .int .i64 m] W fun e w' => e = .returned (.bool g) ∧ Below W.heap.size W w' := fun W => by
    rw [← hgw]; exact worth_any nx en cl fi ed un ms rm mo na fo m W hI (by omega) (by omega) (by omega)
  have c3 : ∀ W, Calls Try.prog 16 #[.agg #[.int .i64 nx, .int .i64 en, .bool cl, .bool fi, .int .i64 ed, .int .i64 un, .int .i64 ms, .int .i64 rm, .int .i64 mo, .bool na, .bool fo], .int .i64 m] W fun e w' => e = .returned (.agg #[.int .i64 nx, .int .i64 (nx + m), .bool false, .bool (decide (nx + m = en))]) ∧ Below W.heap.size W w' := fun W => cut_any nx en cl fi ed un ms rm mo na fo m W hI (by unfold I64; omega)
  have hg := hg'
  unfold newG at hg
  rw [hm, hgw] at hg
  have HX : Hid (BoxW ((w.alloc (.cells #[.int .i64 nx, .int .i64 en, .bool cl, .bool fi, .int .i64 ed, .int .i64 un, .int .i64 ms, .int .i64 rm, .int .i64 mo, .bool na, .bool fo] 23)).alloc (.cells #[.int .i64 0, .int .i64 0, .bool false, .bool false] 25)) w.heap.size (.int .i64 nx) (.int .i64 en) (.bool cl) (.bool fi) (.int .i64 ed) (.int .i64 un) (.int .i64 ms) (.int .i64 rm) (.int .i64 mo) (.bool na) (.bool fo)) := (BoxW.new w (.int .i64 nx) (.int .i64 en) (.bool cl) (.bool fi) (.int .i64 ed) (.int .i64 un) (.int .i64 ms) (.int .i64 rm) (.int .i64 mo) (.bool na) (.bool fo)).alloc _
  have HY : Hid (BoxR ((w.alloc (.cells #[.int .i64 nx, .int .i64 en, .bool cl, .bool fi, .int .i64 ed, .int .i64 un, .int .i64 ms, .int .i64 rm, .int .i64 mo, .bool na, .bool fo] 23)).alloc (.cells #[.int .i64 0, .int .i64 0, .bool false, .bool false] 25)) (w.heap.size + 1) (.int .i64 0) (.int .i64 0) (.bool false) (.bool false)) := by
    have := BoxR.new (w.alloc (.cells #[.int .i64 nx, .int .i64 en, .bool cl, .bool fi, .int .i64 ed, .int .i64 un, .int .i64 ms, .int .i64 rm, .int .i64 mo, .bool na, .bool fo] 23)) (.int .i64 0) (.int .i64 0) (.bool false) (.bool false)
    rw [World.size_alloc] at this
    exact this
  have HB : Hid (Below w.heap.size w ((w.alloc (.cells #[.int .i64 nx, .int .i64 en, .bool cl, .bool fi, .int .i64 ed, .int .i64 un, .int .i64 ms, .int .i64 rm, .int .i64 mo, .bool na, .bool fo] 23)).alloc (.cells #[.int .i64 0, .int .i64 0, .bool false, .bool false] 25))) := below_more (below_more (Below.refl _ _) _) _
  unfold Ints I64 at hI
  have hmn := fun W => min3 hm' W
  have hh2 : nx ≤ en ∧ 0 ≤ nx ∧ en ≤ 1125899906842624 ∧ 0 ≤ m ∧ m ≤ 65000 := by omega
  obtain ⟨h3, h4, rfl⟩ : m ≠ 0 ∧ ¬ rm < m ∧ g = true := by
    simp at hg
    exact ⟨hg.1.1, by omega, hg.2⟩
  rw [hm, newC, hu] at hC
  obtain ⟨P, hP⟩ : ∃ P, decide (nx + m = en) = P := ⟨_, rfl⟩
  obtain ⟨F, hF⟩ : ∃ F, decide (cl = true ∧ m = en - nx ∧ m < u) = F := ⟨_, rfl⟩
  rw [hP] at c3
  rw [hP, hF] at hC
  subst hC
  have hz : (m == 0) = false := by simp [h3]
  have hr : decide (rm < m) = false := by simp; omega
  clear hok hg' hgw hm hu hh hg hm' hI hP
  cases cl with
  | false =>
    obtain rfl : false = F := by rw [← hF]; simp
    clear hF
    go_enter Try.func17, Try.ntmps17
    go_wp2_with fail
    refine (c1 _).mono ?_
    rintro e w1 ⟨rfl, hB1⟩
    have HF : Hid (BoxR w1 (w.heap.size + 1) (.int .i64 0) (.int .i64 0) (.bool false) (.bool false) ∧ Below w.heap.size w w1 ∧ BoxW w1 w.heap.size (.int .i64 nx) (.int .i64 en) (.bool false) (.bool fi) (.int .i64 ed) (.int .i64 un) (.int .i64 ms) (.int .i64 rm) (.int .i64 mo) (.bool na) (.bool fo)) := ⟨HY.out.later hB1, Below.on HB.out hB1, HX.out.later hB1⟩
    obtain ⟨k0, k1, k2, k3, k4, k5, k6, k7, k8, k9, k10⟩ := HF.out.2.2.cells
    obtain ⟨j0, j1, j2, j3⟩ := HF.out.1.cells
    obtain ⟨i0, i1, i2, i3⟩ := HF.out.1.frozen
    clear HX HY HB hB1 c1
    go_wp2_with fail
    refine (c2 _).mono ?_
    rintro e w2 ⟨rfl, hB2⟩
    have HE : Hid (BoxR w2 (w.heap.size + 1) (.int .i64 0) (.int .i64 0) (.bool false) (.bool false) ∧ Below w.heap.size w w2 ∧ BoxW w2 w.heap.size (.int .i64 nx) (.int .i64 en) (.bool false) (.bool fi) (.int .i64 ed) (.int .i64 un) (.int .i64 ms) (.int .i64 rm) (.int .i64 mo) (.bool na) (.bool fo)) := ⟨HF.out.1.later hB2, Below.on HF.out.2.1 hB2, HF.out.2.2.later hB2⟩
    clear k0 k1 k2 k3 k4 k5 k6 k7 k8 k9 k10 j0 j1 j2 j3 i0 i1 i2 i3 HF hB2 c2
    obtain ⟨k0, k1, k2, k3, k4, k5, k6, k7, k8, k9, k10⟩ := HE.out.2.2.cells
    obtain ⟨j0, j1, j2, j3⟩ := HE.out.1.cells
    obtain ⟨i0, i1, i2, i3⟩ := HE.out.1.frozen
    go_wp2_with fail
    refine (c3 _).mono ?_
    rintro e w3 ⟨rfl, hB3⟩
    have HK : Hid (BoxR w3 (w.heap.size + 1) (.int .i64 0) (.int .i64 0) (.bool false) (.bool false) ∧ Below w.heap.size w w3 ∧ BoxW w3 w.heap.size (.int .i64 nx) (.int .i64 en) (.bool false) (.bool fi) (.int .i64 ed) (.int .i64 un) (.int .i64 ms) (.int .i64 rm) (.int .i64 mo) (.bool na) (.bool fo)) := ⟨HE.out.1.later hB3, Below.on HE.out.2.1 hB3, HE.out.2.2.later hB3⟩
    have hlt : w.heap.size + 1 < w3.heap.size := HK.out.1.lt
    have hlt0 : w.heap.size < w3.heap.size := by omega
    clear k0 k1 k2 k3 k4 k5 k6 k7 k8 k9 k10 j0 j1 j2 j3 i0 i1 i2 i3 HE hB3 c3
    obtain ⟨k0, k1, k2, k3, k4, k5, k6, k7, k8, k9, k10⟩ := HK.out.2.2.cells
    obtain ⟨j0, j1, j2, j3⟩ := HK.out.1.cells
    obtain ⟨i0, i1, i2, i3⟩ := HK.out.1.frozen
    go_wp2_with fail
    refine bodyPost_ret (results_box2 rfl _ _ (w.heap.size + 1) _ _ _ _ rfl ((HK.out.1.put _ _ _ _).alloc _)) rfl ?_
    exact ⟨rfl, below_more (below_put HK.out.2.1 _ (Nat.le_succ _) _ _ _ _) _⟩
  | true =>
  by_cases hp : nx + m = en
  · have hp' : (nx + m == en) = true := by simp [hp]
    by_cases hq : m < u
    · obtain rfl : true = F := by rw [← hF]; simp; omega
      have hq' : decide (m < u) = true := by simp [hq]
      clear hF hp
      go_enter Try.func17, Try.ntmps17
      go_wp2_with fail
      refine (c1 _).mono ?_
      rintro e w1 ⟨rfl, hB1⟩
      have HF : Hid (BoxR w1 (w.heap.size + 1) (.int .i64 0) (.int .i64 0) (.bool false) (.bool false) ∧ Below w.heap.size w w1 ∧ BoxW w1 w.heap.size (.int .i64 nx) (.int .i64 en) (.bool true) (.bool fi) (.int .i64 ed) (.int .i64 un) (.int .i64 ms) (.int .i64 rm) (.int .i64 mo) (.bool na) (.bool fo)) := ⟨HY.out.later hB1, Below.on HB.out hB1, HX.out.later hB1⟩
      obtain ⟨k0, k1, k2, k3, k4, k5, k6, k7, k8, k9, k10⟩ := HF.out.2.2.cells
      obtain ⟨j0, j1, j2, j3⟩ := HF.out.1.cells
      obtain ⟨i0, i1, i2, i3⟩ := HF.out.1.frozen
      clear HX HY HB hB1 c1
      go_wp2_with fail
      refine (c2 _).mono ?_
      rintro e w2 ⟨rfl, hB2⟩
      have HE : Hid (BoxR w2 (w.heap.size + 1) (.int .i64 0) (.int .i64 0) (.bool false) (.bool false) ∧ Below w.heap.size w w2 ∧ BoxW w2 w.heap.size (.int .i64 nx) (.int .i64 en) (.bool true) (.bool fi) (.int .i64 ed) (.int .i64 un) (.int .i64 ms) (.int .i64 rm) (.int .i64 mo) (.bool na) (.bool fo)) := ⟨HF.out.1.later hB2, Below.on HF.out.2.1 hB2, HF.out.2.2.later hB2⟩
      clear k0 k1 k2 k3 k4 k5 k6 k7 k8 k9 k10 j0 j1 j2 j3 i0 i1 i2 i3 HF hB2 c2
      obtain ⟨k0, k1, k2, k3, k4, k5, k6, k7, k8, k9, k10⟩ := HE.out.2.2.cells
      obtain ⟨j0, j1, j2, j3⟩ := HE.out.1.cells
      obtain ⟨i0, i1, i2, i3⟩ := HE.out.1.frozen
      go_wp2_with fail
      refine (c3 _).mono ?_
      rintro e w3 ⟨rfl, hB3⟩
      have HK : Hid (BoxR w3 (w.heap.size + 1) (.int .i64 0) (.int .i64 0) (.bool false) (.bool false) ∧ Below w.heap.size w w3 ∧ BoxW w3 w.heap.size (.int .i64 nx) (.int .i64 en) (.bool true) (.bool fi) (.int .i64 ed) (.int .i64 un) (.int .i64 ms) (.int .i64 rm) (.int .i64 mo) (.bool na) (.bool fo)) := ⟨HE.out.1.later hB3, Below.on HE.out.2.1 hB3, HE.out.2.2.later hB3⟩
      have hlt : w.heap.size + 1 < w3.heap.size := HK.out.1.lt
      have hlt0 : w.heap.size < w3.heap.size := by omega
      clear k0 k1 k2 k3 k4 k5 k6 k7 k8 k9 k10 j0 j1 j2 j3 i0 i1 i2 i3 HE hB3 c3
      obtain ⟨k0, k1, k2, k3, k4, k5, k6, k7, k8, k9, k10⟩ := HK.out.2.2.cells
      obtain ⟨j0, j1, j2, j3⟩ := HK.out.1.cells
      obtain ⟨i0, i1, i2, i3⟩ := HK.out.1.frozen
      go_wp2_with fail
      refine bodyPost_ret (results_box2 rfl _ _ (w.heap.size + 1) _ _ _ _ rfl ((HK.out.1.put _ _ _ _).alloc _)) rfl ?_
      exact ⟨rfl, below_more (below_put HK.out.2.1 _ (Nat.le_succ _) _ _ _ _) _⟩
    · obtain rfl : false = F := by rw [← hF]; simp; omega
      have hq' : decide (m < u) = false := by simp [hq]
      clear hF hp
      go_enter Try.func17, Try.ntmps17
      go_wp2_with fail
      refine (c1 _).mono ?_
      rintro e w1 ⟨rfl, hB1⟩
      have HF : Hid (BoxR w1 (w.heap.size + 1) (.int .i64 0) (.int .i64 0) (.bool false) (.bool false) ∧ Below w.heap.size w w1 ∧ BoxW w1 w.heap.size (.int .i64 nx) (.int .i64 en) (.bool true) (.bool fi) (.int .i64 ed) (.int .i64 un) (.int .i64 ms) (.int .i64 rm) (.int .i64 mo) (.bool na) (.bool fo)) := ⟨HY.out.later hB1, Below.on HB.out hB1, HX.out.later hB1⟩
      obtain ⟨k0, k1, k2, k3, k4, k5, k6, k7, k8, k9, k10⟩ := HF.out.2.2.cells
      obtain ⟨j0, j1, j2, j3⟩ := HF.out.1.cells
      obtain ⟨i0, i1, i2, i3⟩ := HF.out.1.frozen
      clear HX HY HB hB1 c1
      go_wp2_with fail
      refine (c2 _).mono ?_
      rintro e w2 ⟨rfl, hB2⟩
      have HE : Hid (BoxR w2 (w.heap.size + 1) (.int .i64 0) (.int .i64 0) (.bool false) (.bool false) ∧ Below w.heap.size w w2 ∧ BoxW w2 w.heap.size (.int .i64 nx) (.int .i64 en) (.bool true) (.bool fi) (.int .i64 ed) (.int .i64 un) (.int .i64 ms) (.int .i64 rm) (.int .i64 mo) (.bool na) (.bool fo)) := ⟨HF.out.1.later hB2, Below.on HF.out.2.1 hB2, HF.out.2.2.later hB2⟩
      clear k0 k1 k2 k3 k4 k5 k6 k7 k8 k9 k10 j0 j1 j2 j3 i0 i1 i2 i3 HF hB2 c2
      obtain ⟨k0, k1, k2, k3, k4, k5, k6, k7, k8, k9, k10⟩ := HE.out.2.2.cells
      obtain ⟨j0, j1, j2, j3⟩ := HE.out.1.cells
      obtain ⟨i0, i1, i2, i3⟩ := HE.out.1.frozen
      go_wp2_with fail
      refine (c3 _).mono ?_
      rintro e w3 ⟨rfl, hB3⟩
      have HK : Hid (BoxR w3 (w.heap.size + 1) (.int .i64 0) (.int .i64 0) (.bool false) (.bool false) ∧ Below w.heap.size w w3 ∧ BoxW w3 w.heap.size (.int .i64 nx) (.int .i64 en) (.bool true) (.bool fi) (.int .i64 ed) (.int .i64 un) (.int .i64 ms) (.int .i64 rm) (.int .i64 mo) (.bool na) (.bool fo)) := ⟨HE.out.1.later hB3, Below.on HE.out.2.1 hB3, HE.out.2.2.later hB3⟩
      have hlt : w.heap.size + 1 < w3.heap.size := HK.out.1.lt
      have hlt0 : w.heap.size < w3.heap.size := by omega
      clear k0 k1 k2 k3 k4 k5 k6 k7 k8 k9 k10 j0 j1 j2 j3 i0 i1 i2 i3 HE hB3 c3
      obtain ⟨k0, k1, k2, k3, k4, k5, k6, k7, k8, k9, k10⟩ := HK.out.2.2.cells
      obtain ⟨j0, j1, j2, j3⟩ := HK.out.1.cells
      obtain ⟨i0, i1, i2, i3⟩ := HK.out.1.frozen
      go_wp2_with fail
      refine bodyPost_ret (results_box2 rfl _ _ (w.heap.size + 1) _ _ _ _ rfl ((HK.out.1.put _ _ _ _).alloc _)) rfl ?_
      exact ⟨rfl, below_more (below_put HK.out.2.1 _ (Nat.le_succ _) _ _ _ _) _⟩
  · have hp' : (nx + m == en) = false := by simp [hp]
    obtain rfl : false = F := by rw [← hF]; simp; omega
    clear hF hp
    go_enter Try.func17, Try.ntmps17
    go_wp2_with fail
    refine (c1 _).mono ?_
    rintro e w1 ⟨rfl, hB1⟩
    have HF : Hid (BoxR w1 (w.heap.size + 1) (.int .i64 0) (.int .i64 0) (.bool false) (.bool false) ∧ Below w.heap.size w w1 ∧ BoxW w1 w.heap.size (.int .i64 nx) (.int .i64 en) (.bool true) (.bool fi) (.int .i64 ed) (.int .i64 un) (.int .i64 ms) (.int .i64 rm) (.int .i64 mo) (.bool na) (.bool fo)) := ⟨HY.out.later hB1, Below.on HB.out hB1, HX.out.later hB1⟩
    obtain ⟨k0, k1, k2, k3, k4, k5, k6, k7, k8, k9, k10⟩ := HF.out.2.2.cells
    obtain ⟨j0, j1, j2, j3⟩ := HF.out.1.cells
    obtain ⟨i0, i1, i2, i3⟩ := HF.out.1.frozen
    clear HX HY HB hB1 c1
    go_wp2_with fail
    refine (c2 _).mono ?_
    rintro e w2 ⟨rfl, hB2⟩
    have HE : Hid (BoxR w2 (w.heap.size + 1) (.int .i64 0) (.int .i64 0) (.bool false) (.bool false) ∧ Below w.heap.size w w2 ∧ BoxW w2 w.heap.size (.int .i64 nx) (.int .i64 en) (.bool true) (.bool fi) (.int .i64 ed) (.int .i64 un) (.int .i64 ms) (.int .i64 rm) (.int .i64 mo) (.bool na) (.bool fo)) := ⟨HF.out.1.later hB2, Below.on HF.out.2.1 hB2, HF.out.2.2.later hB2⟩
    clear k0 k1 k2 k3 k4 k5 k6 k7 k8 k9 k10 j0 j1 j2 j3 i0 i1 i2 i3 HF hB2 c2
    obtain ⟨k0, k1, k2, k3, k4, k5, k6, k7, k8, k9, k10⟩ := HE.out.2.2.cells
    obtain ⟨j0, j1, j2, j3⟩ := HE.out.1.cells
    obtain ⟨i0, i1, i2, i3⟩ := HE.out.1.frozen
    go_wp2_with fail
    refine (c3 _).mono ?_
    rintro e w3 ⟨rfl, hB3⟩
    have HK : Hid (BoxR w3 (w.heap.size + 1) (.int .i64 0) (.int .i64 0) (.bool false) (.bool false) ∧ Below w.heap.size w w3 ∧ BoxW w3 w.heap.size (.int .i64 nx) (.int .i64 en) (.bool true) (.bool fi) (.int .i64 ed) (.int .i64 un) (.int .i64 ms) (.int .i64 rm) (.int .i64 mo) (.bool na) (.bool fo)) := ⟨HE.out.1.later hB3, Below.on HE.out.2.1 hB3, HE.out.2.2.later hB3⟩
    have hlt : w.heap.size + 1 < w3.heap.size := HK.out.1.lt
    have hlt0 : w.heap.size < w3.heap.size := by omega
    clear k0 k1 k2 k3 k4 k5 k6 k7 k8 k9 k10 j0 j1 j2 j3 i0 i1 i2 i3 HE hB3 c3
    obtain ⟨k0, k1, k2, k3, k4, k5, k6, k7, k8, k9, k10⟩ := HK.out.2.2.cells
    obtain ⟨j0, j1, j2, j3⟩ := HK.out.1.cells
    obtain ⟨i0, i1, i2, i3⟩ := HK.out.1.frozen
    go_wp2_with fail
    refine bodyPost_ret (results_box2 rfl _ _ (w.heap.size + 1) _ _ _ _ rfl ((HK.out.1.put _ _ _ _).alloc _)) rfl ?_
    exact ⟨rfl, below_more (below_put HK.out.2.1 _ (Nat.le_succ _) _ _ _ _) _⟩
end Go.Proofs.Ytmfbcdjedegofaa
