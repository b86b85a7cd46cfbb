/- The document's Next: a segment goes. -/
import Derived.Test.YtmfbcdjedegofaaRef0
import Derived.Test.YtmfbcdjedegofaaNew
namespace Go.Proofs.Ytmfbcdjedegofaa
open Go.ChangeShapes Go.WideShapes Go.ChangeAt Go.RowKit
set_option linter.unusedVariables false


set_option maxRecDepth 100000 in
set_option maxHeartbeats 4000000 in
theorem ref_new (nx en : Int) (cl : Bool) (ed un ms rm mo : Int) (na : Bool) (w : World) (hI : Ints nx en ed un ms rm mo) (hok : okW nx en cl false ed un ms mo = true) (he : ¬ nx = en) (hg' : newG nx en cl ed un ms rm mo na = true) (C : Ct) (hC : newC nx en cl ed ms (leastI nx en ed ms) = C) :
    Calls Try.prog 9 #[.agg #[.int .i64 nx, .int .i64 en, .bool cl, .bool false, .int .i64 ed, .int .i64 un, .int .i64 ms, .int .i64 rm, .int .i64 mo, .bool na, .bool false]] w fun e w' => e = .returned (.tuple #[.agg #[.int .i64 C.f, .int .i64 C.t, .bool C.n, .bool C.p], .bool true, .int .i64 0]) ∧ Below w.heap.size w w'  := by
  have HX : Hid (BoxW ((w.alloc (.cells #[.int .i64 nx, .int .i64 en, .bool cl, .bool false, .int .i64 ed, .int .i64 un, .int .i64 ms, .int .i64 rm, .int .i64 mo, .bool na, .bool false] 23)).alloc (.cells #[.int .i64 0, .int .i64 0, .bool false, .bool false] 25)) w.heap.size (.int .i64 nx) (.int .i64 en) (.bool cl) (.bool false) (.int .i64 ed) (.int .i64 un) (.int .i64 ms) (.int .i64 rm) (.int .i64 mo) (.bool na) (.bool false)) := (BoxW.new w (.int .i64 nx) (.int .i64 en) (.bool cl) (.bool false) (.int .i64 ed) (.int .i64 un) (.int .i64 ms) (.int .i64 rm) (.int .i64 mo) (.bool na) (.bool false)).alloc _
  have HY : Hid (BoxR ((w.alloc (.cells #[.int .i64 nx, .int .i64 en, .bool cl, .bool false, .int .i64 ed, .int .i64 un, .int .i64 ms, .int .i64 rm, .int .i64 mo, .bool na, .bool false] 23)).alloc (.cells #[.int .i64 0, .int .i64 0, .bool false, .bool false] 25)) (w.heap.size + 1) (.int .i64 0) (.int .i64 0) (.bool false) (.bool false)) := by
    have := BoxR.new (w.alloc (.cells #[.int .i64 nx, .int .i64 en, .bool cl, .bool false, .int .i64 ed, .int .i64 un, .int .i64 ms, .int .i64 rm, .int .i64 mo, .bool na, .bool false] 23)) (.int .i64 0) (.int .i64 0) (.bool false) (.bool false)
    rw [World.size_alloc] at this
    exact this
  have HB : Hid (Below w.heap.size w ((w.alloc (.cells #[.int .i64 nx, .int .i64 en, .bool cl, .bool false, .int .i64 ed, .int .i64 un, .int .i64 ms, .int .i64 rm, .int .i64 mo, .bool na, .bool false] 23)).alloc (.cells #[.int .i64 0, .int .i64 0, .bool false, .bool false] 25))) := below_more (below_more (Below.refl _ _) _) _
  have c1 : ∀ W, Calls Try.prog 11 #[.agg #[.int .i64 nx, .int .i64 en, .bool cl, .bool false, .int .i64 ed, .int .i64 un, .int .i64 ms, .int .i64 rm, .int .i64 mo, .bool na, .bool false]] W fun e w' => e = .returned (.int .i64 0) ∧ Below W.heap.size W w' := fun W => refChk_is nx en cl false ed un ms rm mo na false W hI 0 (by rw [chkI, if_pos hok])
  obtain ⟨u, hu⟩ : ∃ u, max 0 (ed - nx) = u := ⟨_, rfl⟩
  have c2 : ∀ W, Calls Try.prog 13 #[.agg #[.int .i64 nx, .int .i64 en, .bool cl, .bool false, .int .i64 ed, .int .i64 un, .int .i64 ms, .int .i64 rm, .int .i64 mo, .bool na, .bool false]] W fun e w' => e = .returned (.int .i64 u) ∧ Below W.heap.size W w' := fun W => refUse_is nx en cl false ed un ms rm mo na false W hI u ((use_ok hok).trans hu)
  have hh := ok_out hok
  have hh2 : -9223372036854775808 ≤ en - nx ∧ en - nx ≤ 9223372036854775807 ∧ -9223372036854775808 ≤ nx + 1 ∧ nx + 1 ≤ 9223372036854775807 := by omega

  have d1 : (en - nx == 0) = false := by simp; omega
  have d2 : decide (nx < en) = true := by simp; omega

  obtain ⟨m, hm⟩ : ∃ m, leastI nx en ed ms = m := ⟨_, rfl⟩
  have hm' : min (min (en - nx) ms) u = m := by rw [← hm, leastI, hu]
  have hmn := fun W => min3 hm' W
  obtain ⟨g, hgw⟩ : ∃ g, worthB nx en cl un ms mo na m = g := ⟨_, rfl⟩
  have c3 : ∀ W, Calls Try.prog 18 #[.agg #[.int .i64 nx, .int .i64 en, .bool cl, .bool false, .int .i64 ed, .int .i64 un, .int .i64 ms, .int .i64 rm, .int .i64 mo, .bool na, .bool false], .int .i64 m, .int .i64 (en - nx)] W fun e w' => e = .returned (.bool g) ∧ Below W.heap.size W w' := fun W => by
    rw [← hgw]; exact goes_any nx en cl false ed un ms rm mo na false m (en - nx) W hI (by omega) rfl
  have hg := hg'
  unfold newG at hg
  rw [hm, hgw] at hg
  have hh3 : 0 ≤ nx + m ∧ nx + m ≤ 9223372036854775807 := by omega

  obtain ⟨h3, h4, rfl⟩ : m ≠ 0 ∧ ¬ rm < m ∧ g = true := by
    simp at hg
    exact ⟨hg.1.1, by omega, hg.2⟩
  rw [hm, newC, hu] at hC
  obtain ⟨P, hP⟩ : ∃ P, decide (nx + m = en) = P := ⟨_, rfl⟩
  obtain ⟨F, hF⟩ : ∃ F, decide (cl = true ∧ m = en - nx ∧ m < u) = F := ⟨_, rfl⟩
  rw [hP, hF] at hC
  subst hC
  have e1 : (m == 0) = false := by simp [h3]
  have e2 : decide (rm < m) = false := by simp; omega
  have e3 : (m == en - nx) = P := by rw [← hP, Bool.eq_iff_iff]; simp; omega
  have hP2 : P = true ↔ m = en - nx := by rw [← hP]; simp; omega
  clear hI hok hh hu he hg hg' hgw hm hm' hP
  cases cl with
  | false =>
    obtain rfl : false = F := by rw [← hF]; simp
    clear hF hP2
    go_enter Try.func9, Try.ntmps9
    go_wp2_with fail
    refine (c1 _).mono ?_
    rintro e w1 ⟨rfl, hB1⟩
    have HF : Hid (BoxR w1 (w.heap.size + 1) (.int .i64 0) (.int .i64 0) (.bool false) (.bool false) ∧ Below w.heap.size w w1 ∧ BoxW w1 w.heap.size (.int .i64 nx) (.int .i64 en) (.bool false) (.bool false) (.int .i64 ed) (.int .i64 un) (.int .i64 ms) (.int .i64 rm) (.int .i64 mo) (.bool na) (.bool false)) := ⟨HY.out.later hB1, Below.on HB.out hB1, HX.out.later hB1⟩
    clear HX HY HB hB1 c1
  
    obtain ⟨k0, k1, k2, k3, k4, k5, k6, k7, k8, k9, k10⟩ := HF.out.2.2.cells
    go_wp2_with fail
    refine (c2 _).mono ?_
    rintro e w2 ⟨rfl, hB2⟩
    have HE : Hid (BoxR w2 (w.heap.size + 1) (.int .i64 0) (.int .i64 0) (.bool false) (.bool false) ∧ Below w.heap.size w w2 ∧ BoxW w2 w.heap.size (.int .i64 nx) (.int .i64 en) (.bool false) (.bool false) (.int .i64 ed) (.int .i64 un) (.int .i64 ms) (.int .i64 rm) (.int .i64 mo) (.bool na) (.bool false)) := ⟨HF.out.1.later hB2, Below.on HF.out.2.1 hB2, HF.out.2.2.later hB2⟩
    have hlt : w.heap.size + 1 < w2.heap.size := HE.out.1.lt
    have hlt0 : w.heap.size < w2.heap.size := by omega
    clear k0 k1 k2 k3 k4 k5 k6 k7 k8 k9 k10 HF hB2 c2
    obtain ⟨k0, k1, k2, k3, k4, k5, k6, k7, k8, k9, k10⟩ := HE.out.2.2.cells
    obtain ⟨j0, j1, j2, j3⟩ := HE.out.1.cells
    obtain ⟨i0, i1, i2, i3⟩ := HE.out.1.frozen
    go_wp2_with fail
    refine (c3 _).mono ?_
    rintro e w3 ⟨rfl, hB3⟩
    have hB3' : Below w2.heap.size w2 w3 := Below.on (below_more (Below.refl _ _) _) hB3
    have HK : Hid (BoxR w3 (w.heap.size + 1) (.int .i64 0) (.int .i64 0) (.bool false) (.bool false) ∧ Below w.heap.size w w3 ∧ BoxW w3 w.heap.size (.int .i64 nx) (.int .i64 en) (.bool false) (.bool false) (.int .i64 ed) (.int .i64 un) (.int .i64 ms) (.int .i64 rm) (.int .i64 mo) (.bool na) (.bool false)) := ⟨HE.out.1.later hB3', Below.on HE.out.2.1 hB3', HE.out.2.2.later hB3'⟩
    clear k0 k1 k2 k3 k4 k5 k6 k7 k8 k9 k10 j0 j1 j2 j3 i0 i1 i2 i3 HE hB3 hB3' c3 hlt hlt0
    obtain ⟨k0, k1, k2, k3, k4, k5, k6, k7, k8, k9, k10⟩ := HK.out.2.2.cells
    obtain ⟨j0, j1, j2, j3⟩ := HK.out.1.cells
    obtain ⟨i0, i1, i2, i3⟩ := HK.out.1.frozen
    go_wp2_with fail
    refine bodyPost_ret (results_box3 rfl _ _ (w.heap.size + 1) _ _ _ _ rfl (HK.out.1.put _ _ _ _)) rfl ?_
    exact ⟨rfl, below_put HK.out.2.1 _ (Nat.le_succ _) _ _ _ _⟩
  | true =>
  cases P with
  | false =>
    obtain rfl : false = F := by rw [← hF]; simp at hP2; simp [hP2]
    clear hF hP2
    go_enter Try.func9, Try.ntmps9
    go_wp2_with fail
    refine (c1 _).mono ?_
    rintro e w1 ⟨rfl, hB1⟩
    have HF : Hid (BoxR w1 (w.heap.size + 1) (.int .i64 0) (.int .i64 0) (.bool false) (.bool false) ∧ Below w.heap.size w w1 ∧ BoxW w1 w.heap.size (.int .i64 nx) (.int .i64 en) (.bool true) (.bool false) (.int .i64 ed) (.int .i64 un) (.int .i64 ms) (.int .i64 rm) (.int .i64 mo) (.bool na) (.bool false)) := ⟨HY.out.later hB1, Below.on HB.out hB1, HX.out.later hB1⟩
    clear HX HY HB hB1 c1
  
    obtain ⟨k0, k1, k2, k3, k4, k5, k6, k7, k8, k9, k10⟩ := HF.out.2.2.cells
    go_wp2_with fail
    refine (c2 _).mono ?_
    rintro e w2 ⟨rfl, hB2⟩
    have HE : Hid (BoxR w2 (w.heap.size + 1) (.int .i64 0) (.int .i64 0) (.bool false) (.bool false) ∧ Below w.heap.size w w2 ∧ BoxW w2 w.heap.size (.int .i64 nx) (.int .i64 en) (.bool true) (.bool false) (.int .i64 ed) (.int .i64 un) (.int .i64 ms) (.int .i64 rm) (.int .i64 mo) (.bool na) (.bool false)) := ⟨HF.out.1.later hB2, Below.on HF.out.2.1 hB2, HF.out.2.2.later hB2⟩
    have hlt : w.heap.size + 1 < w2.heap.size := HE.out.1.lt
    have hlt0 : w.heap.size < w2.heap.size := by omega
    clear k0 k1 k2 k3 k4 k5 k6 k7 k8 k9 k10 HF hB2 c2
    obtain ⟨k0, k1, k2, k3, k4, k5, k6, k7, k8, k9, k10⟩ := HE.out.2.2.cells
    obtain ⟨j0, j1, j2, j3⟩ := HE.out.1.cells
    obtain ⟨i0, i1, i2, i3⟩ := HE.out.1.frozen
    go_wp2_with fail
    refine (c3 _).mono ?_
    rintro e w3 ⟨rfl, hB3⟩
    have hB3' : Below w2.heap.size w2 w3 := Below.on (below_more (Below.refl _ _) _) hB3
    have HK : Hid (BoxR w3 (w.heap.size + 1) (.int .i64 0) (.int .i64 0) (.bool false) (.bool false) ∧ Below w.heap.size w w3 ∧ BoxW w3 w.heap.size (.int .i64 nx) (.int .i64 en) (.bool true) (.bool false) (.int .i64 ed) (.int .i64 un) (.int .i64 ms) (.int .i64 rm) (.int .i64 mo) (.bool na) (.bool false)) := ⟨HE.out.1.later hB3', Below.on HE.out.2.1 hB3', HE.out.2.2.later hB3'⟩
    clear k0 k1 k2 k3 k4 k5 k6 k7 k8 k9 k10 j0 j1 j2 j3 i0 i1 i2 i3 HE hB3 hB3' c3 hlt hlt0
    obtain ⟨k0, k1, k2, k3, k4, k5, k6, k7, k8, k9, k10⟩ := HK.out.2.2.cells
    obtain ⟨j0, j1, j2, j3⟩ := HK.out.1.cells
    obtain ⟨i0, i1, i2, i3⟩ := HK.out.1.frozen
    go_wp2_with fail
    refine bodyPost_ret (results_box3 rfl _ _ (w.heap.size + 1) _ _ _ _ rfl (HK.out.1.put _ _ _ _)) rfl ?_
    exact ⟨rfl, below_put HK.out.2.1 _ (Nat.le_succ _) _ _ _ _⟩
  | true =>
  by_cases hq : m < u
  · obtain rfl : true = F := by rw [← hF]; simp at hP2; simp; omega
    have hq' : decide (m < u) = true := by simp [hq]
    clear hF hP2
    go_enter Try.func9, Try.ntmps9
    go_wp2_with fail
    refine (c1 _).mono ?_
    rintro e w1 ⟨rfl, hB1⟩
    have HF : Hid (BoxR w1 (w.heap.size + 1) (.int .i64 0) (.int .i64 0) (.bool false) (.bool false) ∧ Below w.heap.size w w1 ∧ BoxW w1 w.heap.size (.int .i64 nx) (.int .i64 en) (.bool true) (.bool false) (.int .i64 ed) (.int .i64 un) (.int .i64 ms) (.int .i64 rm) (.int .i64 mo) (.bool na) (.bool false)) := ⟨HY.out.later hB1, Below.on HB.out hB1, HX.out.later hB1⟩
    clear HX HY HB hB1 c1
  
    obtain ⟨k0, k1, k2, k3, k4, k5, k6, k7, k8, k9, k10⟩ := HF.out.2.2.cells
    go_wp2_with fail
    refine (c2 _).mono ?_
    rintro e w2 ⟨rfl, hB2⟩
    have HE : Hid (BoxR w2 (w.heap.size + 1) (.int .i64 0) (.int .i64 0) (.bool false) (.bool false) ∧ Below w.heap.size w w2 ∧ BoxW w2 w.heap.size (.int .i64 nx) (.int .i64 en) (.bool true) (.bool false) (.int .i64 ed) (.int .i64 un) (.int .i64 ms) (.int .i64 rm) (.int .i64 mo) (.bool na) (.bool false)) := ⟨HF.out.1.later hB2, Below.on HF.out.2.1 hB2, HF.out.2.2.later hB2⟩
    have hlt : w.heap.size + 1 < w2.heap.size := HE.out.1.lt
    have hlt0 : w.heap.size < w2.heap.size := by omega
    clear k0 k1 k2 k3 k4 k5 k6 k7 k8 k9 k10 HF hB2 c2
    obtain ⟨k0, k1, k2, k3, k4, k5, k6, k7, k8, k9, k10⟩ := HE.out.2.2.cells
    obtain ⟨j0, j1, j2, j3⟩ := HE.out.1.cells
    obtain ⟨i0, i1, i2, i3⟩ := HE.out.1.frozen
    go_wp2_with fail
    refine (c3 _).mono ?_
    rintro e w3 ⟨rfl, hB3⟩
    have hB3' : Below w2.heap.size w2 w3 := Below.on (below_more (Below.refl _ _) _) hB3
    have HK : Hid (BoxR w3 (w.heap.size + 1) (.int .i64 0) (.int .i64 0) (.bool false) (.bool false) ∧ Below w.heap.size w w3 ∧ BoxW w3 w.heap.size (.int .i64 nx) (.int .i64 en) (.bool true) (.bool false) (.int .i64 ed) (.int .i64 un) (.int .i64 ms) (.int .i64 rm) (.int .i64 mo) (.bool na) (.bool false)) := ⟨HE.out.1.later hB3', Below.on HE.out.2.1 hB3', HE.out.2.2.later hB3'⟩
    clear k0 k1 k2 k3 k4 k5 k6 k7 k8 k9 k10 j0 j1 j2 j3 i0 i1 i2 i3 HE hB3 hB3' c3 hlt hlt0
    obtain ⟨k0, k1, k2, k3, k4, k5, k6, k7, k8, k9, k10⟩ := HK.out.2.2.cells
    obtain ⟨j0, j1, j2, j3⟩ := HK.out.1.cells
    obtain ⟨i0, i1, i2, i3⟩ := HK.out.1.frozen
    go_wp2_with fail
    refine bodyPost_ret (results_box3 rfl _ _ (w.heap.size + 1) _ _ _ _ rfl (HK.out.1.put _ _ _ _)) rfl ?_
    exact ⟨rfl, below_put HK.out.2.1 _ (Nat.le_succ _) _ _ _ _⟩
  · obtain rfl : false = F := by rw [← hF]; simp; omega
    have hq' : decide (m < u) = false := by simp [hq]
    clear hF hP2
    go_enter Try.func9, Try.ntmps9
    go_wp2_with fail
    refine (c1 _).mono ?_
    rintro e w1 ⟨rfl, hB1⟩
    have HF : Hid (BoxR w1 (w.heap.size + 1) (.int .i64 0) (.int .i64 0) (.bool false) (.bool false) ∧ Below w.heap.size w w1 ∧ BoxW w1 w.heap.size (.int .i64 nx) (.int .i64 en) (.bool true) (.bool false) (.int .i64 ed) (.int .i64 un) (.int .i64 ms) (.int .i64 rm) (.int .i64 mo) (.bool na) (.bool false)) := ⟨HY.out.later hB1, Below.on HB.out hB1, HX.out.later hB1⟩
    clear HX HY HB hB1 c1
  
    obtain ⟨k0, k1, k2, k3, k4, k5, k6, k7, k8, k9, k10⟩ := HF.out.2.2.cells
    go_wp2_with fail
    refine (c2 _).mono ?_
    rintro e w2 ⟨rfl, hB2⟩
    have HE : Hid (BoxR w2 (w.heap.size + 1) (.int .i64 0) (.int .i64 0) (.bool false) (.bool false) ∧ Below w.heap.size w w2 ∧ BoxW w2 w.heap.size (.int .i64 nx) (.int .i64 en) (.bool true) (.bool false) (.int .i64 ed) (.int .i64 un) (.int .i64 ms) (.int .i64 rm) (.int .i64 mo) (.bool na) (.bool false)) := ⟨HF.out.1.later hB2, Below.on HF.out.2.1 hB2, HF.out.2.2.later hB2⟩
    have hlt : w.heap.size + 1 < w2.heap.size := HE.out.1.lt
    have hlt0 : w.heap.size < w2.heap.size := by omega
    clear k0 k1 k2 k3 k4 k5 k6 k7 k8 k9 k10 HF hB2 c2
    obtain ⟨k0, k1, k2, k3, k4, k5, k6, k7, k8, k9, k10⟩ := HE.out.2.2.cells
    obtain ⟨j0, j1, j2, j3⟩ := HE.out.1.cells
    obtain ⟨i0, i1, i2, i3⟩ := HE.out.1.frozen
    go_wp2_with fail
    refine (c3 _).mono ?_
    rintro e w3 ⟨rfl, hB3⟩
    have hB3' : Below w2.heap.size w2 w3 := Below.on (below_more (Below.refl _ _) _) hB3
    have HK : Hid (BoxR w3 (w.heap.size + 1) (.int .i64 0) (.int .i64 0) (.bool false) (.bool false) ∧ Below w.heap.size w w3 ∧ BoxW w3 w.heap.size (.int .i64 nx) (.int .i64 en) (.bool true) (.bool false) (.int .i64 ed) (.int .i64 un) (.int .i64 ms) (.int .i64 rm) (.int .i64 mo) (.bool na) (.bool false)) := ⟨HE.out.1.later hB3', Below.on HE.out.2.1 hB3', HE.out.2.2.later hB3'⟩
    clear k0 k1 k2 k3 k4 k5 k6 k7 k8 k9 k10 j0 j1 j2 j3 i0 i1 i2 i3 HE hB3 hB3' c3 hlt hlt0
    obtain ⟨k0, k1, k2, k3, k4, k5, k6, k7, k8, k9, k10⟩ := HK.out.2.2.cells
    obtain ⟨j0, j1, j2, j3⟩ := HK.out.1.cells
    obtain ⟨i0, i1, i2, i3⟩ := HK.out.1.frozen
    go_wp2_with fail
    refine bodyPost_ret (results_box3 rfl _ _ (w.heap.size + 1) _ _ _ _ rfl (HK.out.1.put _ _ _ _)) rfl ?_
    exact ⟨rfl, below_put HK.out.2.1 _ (Nat.le_succ _) _ _ _ _⟩
end Go.Proofs.Ytmfbcdjedegofaa
