/- The contracts of window's small functions. -/
import Derived.Test.YtliiogafemlagaaBase
namespace Go.Proofs.Ytliiogafemlagaa
open Go.ChangeShapes Go.WideShapes Go.ChangeAt Go.RowKit Go.Shelf
set_option linter.unusedVariables false
set_option linter.unusedSimpArgs false
attribute [local go_sem] Oper.semAt_some


theorem max2 {x y m : Int} (h : max x y = m) (W : World) : (Builtin.max_ #[3, 3] 3 #[.int .i64 x, .int .i64 y]).run Try.prog W = .ok (.int .i64 m) W := by
  subst h
  simp [Builtin.max_, Builtin.max2]
  omega
theorem min2 {x y m : Int} (h : min x y = m) (W : World) : (Builtin.min_ #[3, 3] 3 #[.int .i64 x, .int .i64 y]).run Try.prog W = .ok (.int .i64 m) W := by
  subst h
  simp [Builtin.min_, Builtin.min2]
  omega

set_option maxRecDepth 100000 in
set_option maxHeartbeats 4000000 in
theorem edge_is (n : Int) {b : Bool} (h : farB n = b) (w : World) : Calls Try.prog 23 #[.int .i64 n] w fun e w' => e = .returned (.bool b) ∧ w' = w := by
  subst h
  unfold farB
  by_cases h1 : 0 ≤ n
  · go_enter Try.func23, Try.ntmps23
    go_wp2
    all_goals go_ret
    all_goals (refine ⟨ret_bool ?_, rfl⟩; rw [Bool.eq_iff_iff]; simp; omega)
  · go_enter Try.func23, Try.ntmps23
    go_wp2
    all_goals go_ret
    all_goals (refine ⟨ret_bool ?_, rfl⟩; rw [Bool.eq_iff_iff]; simp; omega)

set_option maxRecDepth 100000 in
set_option maxHeartbeats 4000000 in
theorem size_is (n : Int) {b : Bool} (h : szB n = b) (w : World) : Calls Try.prog 24 #[.int .i64 n] w fun e w' => e = .returned (.bool b) ∧ w' = w := by
  subst h
  unfold szB
  by_cases h1 : 0 ≤ n
  · go_enter Try.func24, Try.ntmps24
    go_wp2
    all_goals go_ret
    all_goals (refine ⟨ret_bool ?_, rfl⟩; rw [Bool.eq_iff_iff]; simp; omega)
  · go_enter Try.func24, Try.ntmps24
    go_wp2
    all_goals go_ret
    all_goals (refine ⟨ret_bool ?_, rfl⟩; rw [Bool.eq_iff_iff]; simp; omega)

set_option maxRecDepth 100000 in
set_option maxHeartbeats 4000000 in
theorem offs_is (n : Int) {b : Bool} (h : offB n = b) (w : World) : Calls Try.prog 26 #[.int .i64 n] w fun e w' => e = .returned (.bool b) ∧ w' = w := by
  subst h
  unfold offB
  by_cases h1 : 0 ≤ n
  · go_enter Try.func26, Try.ntmps26
    go_wp2
    all_goals go_ret
    all_goals (refine ⟨ret_bool ?_, rfl⟩; rw [Bool.eq_iff_iff]; simp; omega)
  · go_enter Try.func26, Try.ntmps26
    go_wp2
    all_goals go_ret
    all_goals (refine ⟨ret_bool ?_, rfl⟩; rw [Bool.eq_iff_iff]; simp; omega)

set_option maxRecDepth 100000 in
set_option maxHeartbeats 4000000 in
theorem roffs_is (n : Int) {b : Bool} (h : offB n = b) (w : World) : Calls Try.prog 29 #[.int .i64 n] w fun e w' => e = .returned (.bool b) ∧ w' = w := by
  subst h
  unfold offB
  by_cases h1 : 0 ≤ n
  · go_enter Try.func29, Try.ntmps29
    go_wp2
    all_goals go_ret
    all_goals (refine ⟨ret_bool ?_, rfl⟩; rw [Bool.eq_iff_iff]; simp; omega)
  · go_enter Try.func29, Try.ntmps29
    go_wp2
    all_goals go_ret
    all_goals (refine ⟨ret_bool ?_, rfl⟩; rw [Bool.eq_iff_iff]; simp; omega)

set_option maxRecDepth 100000 in
set_option maxHeartbeats 4000000 in
theorem rsize_is (n : Int) {b : Bool} (h : szB n = b) (w : World) : Calls Try.prog 30 #[.int .i64 n] w fun e w' => e = .returned (.bool b) ∧ w' = w := by
  subst h
  unfold szB
  by_cases h1 : 0 ≤ n
  · go_enter Try.func30, Try.ntmps30
    go_wp2
    all_goals go_ret
    all_goals (refine ⟨ret_bool ?_, rfl⟩; rw [Bool.eq_iff_iff]; simp; omega)
  · go_enter Try.func30, Try.ntmps30
    go_wp2
    all_goals go_ret
    all_goals (refine ⟨ret_bool ?_, rfl⟩; rw [Bool.eq_iff_iff]; simp; omega)

set_option maxRecDepth 100000 in
set_option maxHeartbeats 4000000 in
theorem redge_is (n : Int) {b : Bool} (h : farB n = b) (w : World) : Calls Try.prog 31 #[.int .i64 n] w fun e w' => e = .returned (.bool b) ∧ w' = w := by
  subst h
  unfold farB
  by_cases h1 : 0 ≤ n
  · go_enter Try.func31, Try.ntmps31
    go_wp2
    all_goals go_ret
    all_goals (refine ⟨ret_bool ?_, rfl⟩; rw [Bool.eq_iff_iff]; simp; omega)
  · go_enter Try.func31, Try.ntmps31
    go_wp2
    all_goals go_ret
    all_goals (refine ⟨ret_bool ?_, rfl⟩; rw [Bool.eq_iff_iff]; simp; omega)

theorem rclamp_walk (x low high : Int) (w : World) : Calls Try.prog 34 #[.int .i64 x, .int .i64 low, .int .i64 high] w fun e w' => e = .returned (.int .i64 (clampI x low high)) ∧ w' = w := by
  go_enter Try.func34, Try.ntmps34
  go_wp2
  all_goals go_ret
  all_goals (refine ⟨ret_int ?_, rfl⟩; unfold clampI; first | omega | (split <;> (try split) <;> (try split) <;> omega))

set_option maxRecDepth 100000 in
set_option maxHeartbeats 4000000 in
theorem right_w (p : Wn) {m : Int} (c1 : ∀ W, Calls Try.prog 35 #[.int .i64 p.l2, .int .i64 p.sz] W fun e w' => e = .returned (.int .i64 m) ∧ w' = W)  (w : World) : Calls Try.prog 25 #[agv (wnL p)] w fun e w' => e = .returned (.int .i64 m) ∧ Below w.heap.size w w' := by
  go_enter Try.func25, Try.ntmps25
  go_wp2_with (first | (refine wpS_box rfl rfl rfl ?_))
  intro X1 g HN
  have HX1 : Hid (Below w.heap.size w X1 ∧ Box X1 g 23 (wnL p) ∧ w.heap.size ≤ g ∧ True) := by
    have hb := Below.refl w.heap.size w
    obtain ⟨hg, hb2, bn⟩ := HN.out
    have hz := hb.size
    exact ⟨Below.on hb hb2, bn, by omega, trivial⟩
  clear HN 
  have k1 := Box.cell (HX1.out.2.1) 1 rfl
  have k4 := Box.cell (HX1.out.2.1) 4 rfl
  go_wp2_with fail
  refine (c1 _).mono ?_
  rintro e w' ⟨rfl, hq⟩
  obtain rfl := hq.symm
  clear hq
  go_wp2_with fail
  go_ret
  exact ⟨rfl, HX1.out.1⟩

theorem right_is (p : Wn) (h1 : 0 ≤ p.l2 ∧ p.l2 ≤ 1125900980584448) (h2 : 0 ≤ p.sz ∧ p.sz ≤ 1073741824) (w : World) : Calls Try.prog 25 #[agv (wnL p)] w fun e w' => e = .returned (.int .i64 (p.l2 + p.sz)) ∧ Below w.heap.size w w' := by
  have hs : sumI p.l2 p.sz = p.l2 + p.sz := by unfold sumI; rw [if_neg (by omega), if_neg (by omega)]
  exact right_w p (fun W => by
    have := sum_walk p.l2 p.sz (by omega) (by omega) W
    rwa [hs] at this) w
end Go.Proofs.Ytliiogafemlagaa
