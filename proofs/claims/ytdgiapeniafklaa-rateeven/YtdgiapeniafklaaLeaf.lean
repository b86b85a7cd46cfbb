/- The contracts of isTime, held, fits, Check, and of the document's. -/
import Derived.Test.YtdgiapeniafklaaBase
namespace Go.Proofs.Ytdgiapeniafklaa
open Go.ChangeShapes Go.WideShapes Go.ChangeAt Go.RowKit Go.Shelf
set_option linter.unusedVariables false
set_option linter.unusedSimpArgs false
attribute [local go_sem] Oper.semAt_some


theorem max2 {x y m : Int} (h : max x y = m) (W : World) : (Builtin.max_ #[3, 3] 3 #[.int .i64 x, .int .i64 y]).run Try.prog W = .ok (.int .i64 m) W := by
  subst h
  simp [Builtin.max_, Builtin.max2]
  omega
theorem min2 {x y m : Int} (h : min x y = m) (W : World) : (Builtin.min_ #[3, 3] 3 #[.int .i64 x, .int .i64 y]).run Try.prog W = .ok (.int .i64 m) W := by
  subst h
  simp [Builtin.min_, Builtin.min2]
  omega

set_option maxRecDepth 100000 in
set_option maxHeartbeats 4000000 in
theorem tm_is (n : Int) {b : Bool} (h : tmB n = b) (w : World) : Calls Try.prog 17 #[.int .i64 n] w fun e w' => e = .returned (.bool b) ∧ w' = w := by
  subst h
  unfold tmB
  by_cases h1 : 0 ≤ n
  · go_enter Try.func17, Try.ntmps17
    go_wp2
    all_goals go_ret
    all_goals (refine ⟨ret_bool ?_, rfl⟩; rw [Bool.eq_iff_iff]; simp; omega)
  · go_enter Try.func17, Try.ntmps17
    go_wp2
    all_goals go_ret
    all_goals (refine ⟨ret_bool ?_, rfl⟩; rw [Bool.eq_iff_iff]; simp; omega)

set_option maxRecDepth 100000 in
set_option maxHeartbeats 4000000 in
theorem rtm_is (n : Int) {b : Bool} (h : tmB n = b) (w : World) : Calls Try.prog 23 #[.int .i64 n] w fun e w' => e = .returned (.bool b) ∧ w' = w := by
  subst h
  unfold tmB
  by_cases h1 : 0 ≤ n
  · go_enter Try.func23, Try.ntmps23
    go_wp2
    all_goals go_ret
    all_goals (refine ⟨ret_bool ?_, rfl⟩; rw [Bool.eq_iff_iff]; simp; omega)
  · go_enter Try.func23, Try.ntmps23
    go_wp2
    all_goals go_ret
    all_goals (refine ⟨ret_bool ?_, rfl⟩; rw [Bool.eq_iff_iff]; simp; omega)

set_option maxRecDepth 100000 in
set_option maxHeartbeats 4000000 in
theorem held_is (n : Int) {m : Int} (h : min n 1125899906842624 = m) (w : World) : Calls Try.prog 20 #[.int .i64 n] w fun e w' => e = .returned (.int .i64 m) ∧ w' = w := by
  subst h
  rcases (show n ≤ 1125899906842624 ∨ 1125899906842624 < n by omega) with h1 | h1
  all_goals
    go_enter Try.func20, Try.ntmps20
    go_wp2
    all_goals go_ret
    all_goals (refine ⟨ret_int ?_, rfl⟩; omega)

set_option maxRecDepth 100000 in
set_option maxHeartbeats 4000000 in
theorem chk_0 (q : Rt) (h0 : tmB q.gv = false) (w : World) : Calls Try.prog 13 #[agv (rtL q)] w fun e w' => e = .returned (.int .i64 230) ∧ Below w.heap.size w w' := by
  have d0 : ∀ W, Calls Try.prog 17 #[.int .i64 q.gv] W fun e w' => e = .returned (.bool false) ∧ w' = W := fun W => tm_is q.gv h0 W
  clear h0
  go_enter Try.func13, Try.ntmps13
  go_wp2_with (first | (refine wpS_box rfl rfl rfl ?_))
  intro X1 p HN
  have HX1 : Hid (Below w.heap.size w X1 ∧ Box X1 p 23 (rtL q) ∧ w.heap.size ≤ p ∧ True) := by
    have hb := Below.refl w.heap.size w
    obtain ⟨hg, hb2, bn⟩ := HN.out
    have hz := hb.size
    exact ⟨Below.on hb hb2, bn, by omega, trivial⟩
  clear HN 
  have k0 := Box.cell (HX1.out.2.1) 0 rfl
  have k1 := Box.cell (HX1.out.2.1) 1 rfl
  have k2 := Box.cell (HX1.out.2.1) 2 rfl
  have k3 := Box.cell (HX1.out.2.1) 3 rfl
  go_wp2_with fail
  refine (d0 _).mono ?_
  rintro e w' ⟨rfl, hq⟩
  obtain rfl := hq.symm
  clear hq
  go_wp2_with fail
  go_ret
  exact ⟨rfl, HX1.out.1⟩

set_option maxRecDepth 100000 in
set_option maxHeartbeats 4000000 in
theorem chk_1 (q : Rt) (h0 : tmB q.gv = true) (h1 : tmB q.ga = false) (w : World) : Calls Try.prog 13 #[agv (rtL q)] w fun e w' => e = .returned (.int .i64 230) ∧ Below w.heap.size w w' := by
  have d0 : ∀ W, Calls Try.prog 17 #[.int .i64 q.gv] W fun e w' => e = .returned (.bool true) ∧ w' = W := fun W => tm_is q.gv h0 W
  have d1 : ∀ W, Calls Try.prog 17 #[.int .i64 q.ga] W fun e w' => e = .returned (.bool false) ∧ w' = W := fun W => tm_is q.ga h1 W
  clear h0 h1
  go_enter Try.func13, Try.ntmps13
  go_wp2_with (first | (refine wpS_box rfl rfl rfl ?_))
  intro X1 p HN
  have HX1 : Hid (Below w.heap.size w X1 ∧ Box X1 p 23 (rtL q) ∧ w.heap.size ≤ p ∧ True) := by
    have hb := Below.refl w.heap.size w
    obtain ⟨hg, hb2, bn⟩ := HN.out
    have hz := hb.size
    exact ⟨Below.on hb hb2, bn, by omega, trivial⟩
  clear HN 
  have k0 := Box.cell (HX1.out.2.1) 0 rfl
  have k1 := Box.cell (HX1.out.2.1) 1 rfl
  have k2 := Box.cell (HX1.out.2.1) 2 rfl
  have k3 := Box.cell (HX1.out.2.1) 3 rfl
  go_wp2_with fail
  refine (d0 _).mono ?_
  rintro e w' ⟨rfl, hq⟩
  obtain rfl := hq.symm
  clear hq
  go_wp2_with fail
  refine (d1 _).mono ?_
  rintro e w' ⟨rfl, hq⟩
  obtain rfl := hq.symm
  clear hq
  go_wp2_with fail
  go_ret
  exact ⟨rfl, HX1.out.1⟩

set_option maxRecDepth 100000 in
set_option maxHeartbeats 4000000 in
theorem chk_2 (q : Rt) (h0 : tmB q.gv = true) (h1 : tmB q.ga = true) (h2 : tmB q.fa = false) (w : World) : Calls Try.prog 13 #[agv (rtL q)] w fun e w' => e = .returned (.int .i64 230) ∧ Below w.heap.size w w' := by
  have d0 : ∀ W, Calls Try.prog 17 #[.int .i64 q.gv] W fun e w' => e = .returned (.bool true) ∧ w' = W := fun W => tm_is q.gv h0 W
  have d1 : ∀ W, Calls Try.prog 17 #[.int .i64 q.ga] W fun e w' => e = .returned (.bool true) ∧ w' = W := fun W => tm_is q.ga h1 W
  have d2 : ∀ W, Calls Try.prog 17 #[.int .i64 q.fa] W fun e w' => e = .returned (.bool false) ∧ w' = W := fun W => tm_is q.fa h2 W
  clear h0 h1 h2
  go_enter Try.func13, Try.ntmps13
  go_wp2_with (first | (refine wpS_box rfl rfl rfl ?_))
  intro X1 p HN
  have HX1 : Hid (Below w.heap.size w X1 ∧ Box X1 p 23 (rtL q) ∧ w.heap.size ≤ p ∧ True) := by
    have hb := Below.refl w.heap.size w
    obtain ⟨hg, hb2, bn⟩ := HN.out
    have hz := hb.size
    exact ⟨Below.on hb hb2, bn, by omega, trivial⟩
  clear HN 
  have k0 := Box.cell (HX1.out.2.1) 0 rfl
  have k1 := Box.cell (HX1.out.2.1) 1 rfl
  have k2 := Box.cell (HX1.out.2.1) 2 rfl
  have k3 := Box.cell (HX1.out.2.1) 3 rfl
  go_wp2_with fail
  refine (d0 _).mono ?_
  rintro e w' ⟨rfl, hq⟩
  obtain rfl := hq.symm
  clear hq
  go_wp2_with fail
  refine (d1 _).mono ?_
  rintro e w' ⟨rfl, hq⟩
  obtain rfl := hq.symm
  clear hq
  go_wp2_with fail
  refine (d2 _).mono ?_
  rintro e w' ⟨rfl, hq⟩
  obtain rfl := hq.symm
  clear hq
  go_wp2_with fail
  go_ret
  exact ⟨rfl, HX1.out.1⟩

set_option maxRecDepth 100000 in
set_option maxHeartbeats 4000000 in
theorem chk_3 (q : Rt) (h0 : tmB q.gv = true) (h1 : tmB q.ga = true) (h2 : tmB q.fa = true) (h3 : tmB q.idt = false) (w : World) : Calls Try.prog 13 #[agv (rtL q)] w fun e w' => e = .returned (.int .i64 230) ∧ Below w.heap.size w w' := by
  have d0 : ∀ W, Calls Try.prog 17 #[.int .i64 q.gv] W fun e w' => e = .returned (.bool true) ∧ w' = W := fun W => tm_is q.gv h0 W
  have d1 : ∀ W, Calls Try.prog 17 #[.int .i64 q.ga] W fun e w' => e = .returned (.bool true) ∧ w' = W := fun W => tm_is q.ga h1 W
  have d2 : ∀ W, Calls Try.prog 17 #[.int .i64 q.fa] W fun e w' => e = .returned (.bool true) ∧ w' = W := fun W => tm_is q.fa h2 W
  have d3 : ∀ W, Calls Try.prog 17 #[.int .i64 q.idt] W fun e w' => e = .returned (.bool false) ∧ w' = W := fun W => tm_is q.idt h3 W
  clear h0 h1 h2 h3
  go_enter Try.func13, Try.ntmps13
  go_wp2_with (first | (refine wpS_box rfl rfl rfl ?_))
  intro X1 p HN
  have HX1 : Hid (Below w.heap.size w X1 ∧ Box X1 p 23 (rtL q) ∧ w.heap.size ≤ p ∧ True) := by
    have hb := Below.refl w.heap.size w
    obtain ⟨hg, hb2, bn⟩ := HN.out
    have hz := hb.size
    exact ⟨Below.on hb hb2, bn, by omega, trivial⟩
  clear HN 
  have k0 := Box.cell (HX1.out.2.1) 0 rfl
  have k1 := Box.cell (HX1.out.2.1) 1 rfl
  have k2 := Box.cell (HX1.out.2.1) 2 rfl
  have k3 := Box.cell (HX1.out.2.1) 3 rfl
  go_wp2_with fail
  refine (d0 _).mono ?_
  rintro e w' ⟨rfl, hq⟩
  obtain rfl := hq.symm
  clear hq
  go_wp2_with fail
  refine (d1 _).mono ?_
  rintro e w' ⟨rfl, hq⟩
  obtain rfl := hq.symm
  clear hq
  go_wp2_with fail
  refine (d2 _).mono ?_
  rintro e w' ⟨rfl, hq⟩
  obtain rfl := hq.symm
  clear hq
  go_wp2_with fail
  refine (d3 _).mono ?_
  rintro e w' ⟨rfl, hq⟩
  obtain rfl := hq.symm
  clear hq
  go_wp2_with fail
  go_ret
  exact ⟨rfl, HX1.out.1⟩

set_option maxRecDepth 100000 in
set_option maxHeartbeats 4000000 in
theorem chk_4 (q : Rt) (h0 : tmB q.gv = true) (h1 : tmB q.ga = true) (h2 : tmB q.fa = true) (h3 : tmB q.idt = true) (w : World) : Calls Try.prog 13 #[agv (rtL q)] w fun e w' => e = .returned (.int .i64 0) ∧ Below w.heap.size w w' := by
  have d0 : ∀ W, Calls Try.prog 17 #[.int .i64 q.gv] W fun e w' => e = .returned (.bool true) ∧ w' = W := fun W => tm_is q.gv h0 W
  have d1 : ∀ W, Calls Try.prog 17 #[.int .i64 q.ga] W fun e w' => e = .returned (.bool true) ∧ w' = W := fun W => tm_is q.ga h1 W
  have d2 : ∀ W, Calls Try.prog 17 #[.int .i64 q.fa] W fun e w' => e = .returned (.bool true) ∧ w' = W := fun W => tm_is q.fa h2 W
  have d3 : ∀ W, Calls Try.prog 17 #[.int .i64 q.idt] W fun e w' => e = .returned (.bool true) ∧ w' = W := fun W => tm_is q.idt h3 W
  clear h0 h1 h2 h3
  go_enter Try.func13, Try.ntmps13
  go_wp2_with (first | (refine wpS_box rfl rfl rfl ?_))
  intro X1 p HN
  have HX1 : Hid (Below w.heap.size w X1 ∧ Box X1 p 23 (rtL q) ∧ w.heap.size ≤ p ∧ True) := by
    have hb := Below.refl w.heap.size w
    obtain ⟨hg, hb2, bn⟩ := HN.out
    have hz := hb.size
    exact ⟨Below.on hb hb2, bn, by omega, trivial⟩
  clear HN 
  have k0 := Box.cell (HX1.out.2.1) 0 rfl
  have k1 := Box.cell (HX1.out.2.1) 1 rfl
  have k2 := Box.cell (HX1.out.2.1) 2 rfl
  have k3 := Box.cell (HX1.out.2.1) 3 rfl
  go_wp2_with fail
  refine (d0 _).mono ?_
  rintro e w' ⟨rfl, hq⟩
  obtain rfl := hq.symm
  clear hq
  go_wp2_with fail
  refine (d1 _).mono ?_
  rintro e w' ⟨rfl, hq⟩
  obtain rfl := hq.symm
  clear hq
  go_wp2_with fail
  refine (d2 _).mono ?_
  rintro e w' ⟨rfl, hq⟩
  obtain rfl := hq.symm
  clear hq
  go_wp2_with fail
  refine (d3 _).mono ?_
  rintro e w' ⟨rfl, hq⟩
  obtain rfl := hq.symm
  clear hq
  go_wp2_with fail
  go_ret
  exact ⟨rfl, HX1.out.1⟩

theorem chk_is (q : Rt) {r : Int} (hr : chkE q = r) (w : World) : Calls Try.prog 13 #[agv (rtL q)] w fun e w' => e = .returned (.int .i64 r) ∧ Below w.heap.size w w' := by
  subst hr
  unfold chkE okQ
  cases h0 : tmB q.gv with
  | false => rw [if_neg (by simp)]; exact chk_0 q h0 w
  | true =>
  cases h1 : tmB q.ga with
  | false => rw [if_neg (by simp)]; exact chk_1 q h0 h1 w
  | true =>
  cases h2 : tmB q.fa with
  | false => rw [if_neg (by simp)]; exact chk_2 q h0 h1 h2 w
  | true =>
  cases h3 : tmB q.idt with
  | false => rw [if_neg (by simp)]; exact chk_3 q h0 h1 h2 h3 w
  | true =>
  rw [if_pos (by simp)]; exact chk_4 q h0 h1 h2 h3 w

set_option maxRecDepth 100000 in
set_option maxHeartbeats 4000000 in
theorem rchk_0 (q : Rt) (h0 : tmB q.gv = false) (w : World) : Calls Try.prog 14 #[agv (rtL q)] w fun e w' => e = .returned (.int .i64 230) ∧ Below w.heap.size w w' := by
  have d0 : ∀ W, Calls Try.prog 23 #[.int .i64 q.gv] W fun e w' => e = .returned (.bool false) ∧ w' = W := fun W => rtm_is q.gv h0 W
  clear h0
  go_enter Try.func14, Try.ntmps14
  go_wp2_with (first | (refine wpS_box rfl rfl rfl ?_))
  intro X1 p HN
  have HX1 : Hid (Below w.heap.size w X1 ∧ Box X1 p 23 (rtL q) ∧ w.heap.size ≤ p ∧ True) := by
    have hb := Below.refl w.heap.size w
    obtain ⟨hg, hb2, bn⟩ := HN.out
    have hz := hb.size
    exact ⟨Below.on hb hb2, bn, by omega, trivial⟩
  clear HN 
  have k0 := Box.cell (HX1.out.2.1) 0 rfl
  have k1 := Box.cell (HX1.out.2.1) 1 rfl
  have k2 := Box.cell (HX1.out.2.1) 2 rfl
  have k3 := Box.cell (HX1.out.2.1) 3 rfl
  go_wp2_with fail
  refine (d0 _).mono ?_
  rintro e w' ⟨rfl, hq⟩
  obtain rfl := hq.symm
  clear hq
  go_wp2_with fail
  go_ret
  exact ⟨rfl, HX1.out.1⟩

set_option maxRecDepth 100000 in
set_option maxHeartbeats 4000000 in
theorem rchk_1 (q : Rt) (h0 : tmB q.gv = true) (h1 : tmB q.ga = false) (w : World) : Calls Try.prog 14 #[agv (rtL q)] w fun e w' => e = .returned (.int .i64 230) ∧ Below w.heap.size w w' := by
  have d0 : ∀ W, Calls Try.prog 23 #[.int .i64 q.gv] W fun e w' => e = .returned (.bool true) ∧ w' = W := fun W => rtm_is q.gv h0 W
  have d1 : ∀ W, Calls Try.prog 23 #[.int .i64 q.ga] W fun e w' => e = .returned (.bool false) ∧ w' = W := fun W => rtm_is q.ga h1 W
  clear h0 h1
  go_enter Try.func14, Try.ntmps14
  go_wp2_with (first | (refine wpS_box rfl rfl rfl ?_))
  intro X1 p HN
  have HX1 : Hid (Below w.heap.size w X1 ∧ Box X1 p 23 (rtL q) ∧ w.heap.size ≤ p ∧ True) := by
    have hb := Below.refl w.heap.size w
    obtain ⟨hg, hb2, bn⟩ := HN.out
    have hz := hb.size
    exact ⟨Below.on hb hb2, bn, by omega, trivial⟩
  clear HN 
  have k0 := Box.cell (HX1.out.2.1) 0 rfl
  have k1 := Box.cell (HX1.out.2.1) 1 rfl
  have k2 := Box.cell (HX1.out.2.1) 2 rfl
  have k3 := Box.cell (HX1.out.2.1) 3 rfl
  go_wp2_with fail
  refine (d0 _).mono ?_
  rintro e w' ⟨rfl, hq⟩
  obtain rfl := hq.symm
  clear hq
  go_wp2_with fail
  refine (d1 _).mono ?_
  rintro e w' ⟨rfl, hq⟩
  obtain rfl := hq.symm
  clear hq
  go_wp2_with fail
  go_ret
  exact ⟨rfl, HX1.out.1⟩

set_option maxRecDepth 100000 in
set_option maxHeartbeats 4000000 in
theorem rchk_2 (q : Rt) (h0 : tmB q.gv = true) (h1 : tmB q.ga = true) (h2 : tmB q.fa = false) (w : World) : Calls Try.prog 14 #[agv (rtL q)] w fun e w' => e = .returned (.int .i64 230) ∧ Below w.heap.size w w' := by
  have d0 : ∀ W, Calls Try.prog 23 #[.int .i64 q.gv] W fun e w' => e = .returned (.bool true) ∧ w' = W := fun W => rtm_is q.gv h0 W
  have d1 : ∀ W, Calls Try.prog 23 #[.int .i64 q.ga] W fun e w' => e = .returned (.bool true) ∧ w' = W := fun W => rtm_is q.ga h1 W
  have d2 : ∀ W, Calls Try.prog 23 #[.int .i64 q.fa] W fun e w' => e = .returned (.bool false) ∧ w' = W := fun W => rtm_is q.fa h2 W
  clear h0 h1 h2
  go_enter Try.func14, Try.ntmps14
  go_wp2_with (first | (refine wpS_box rfl rfl rfl ?_))
  intro X1 p HN
  have HX1 : Hid (Below w.heap.size w X1 ∧ Box X1 p 23 (rtL q) ∧ w.heap.size ≤ p ∧ True) := by
    have hb := Below.refl w.heap.size w
    obtain ⟨hg, hb2, bn⟩ := HN.out
    have hz := hb.size
    exact ⟨Below.on hb hb2, bn, by omega, trivial⟩
  clear HN 
  have k0 := Box.cell (HX1.out.2.1) 0 rfl
  have k1 := Box.cell (HX1.out.2.1) 1 rfl
  have k2 := Box.cell (HX1.out.2.1) 2 rfl
  have k3 := Box.cell (HX1.out.2.1) 3 rfl
  go_wp2_with fail
  refine (d0 _).mono ?_
  rintro e w' ⟨rfl, hq⟩
  obtain rfl := hq.symm
  clear hq
  go_wp2_with fail
  refine (d1 _).mono ?_
  rintro e w' ⟨rfl, hq⟩
  obtain rfl := hq.symm
  clear hq
  go_wp2_with fail
  refine (d2 _).mono ?_
  rintro e w' ⟨rfl, hq⟩
  obtain rfl := hq.symm
  clear hq
  go_wp2_with fail
  go_ret
  exact ⟨rfl, HX1.out.1⟩

set_option maxRecDepth 100000 in
set_option maxHeartbeats 4000000 in
theorem rchk_3 (q : Rt) (h0 : tmB q.gv = true) (h1 : tmB q.ga = true) (h2 : tmB q.fa = true) (h3 : tmB q.idt = false) (w : World) : Calls Try.prog 14 #[agv (rtL q)] w fun e w' => e = .returned (.int .i64 230) ∧ Below w.heap.size w w' := by
  have d0 : ∀ W, Calls Try.prog 23 #[.int .i64 q.gv] W fun e w' => e = .returned (.bool true) ∧ w' = W := fun W => rtm_is q.gv h0 W
  have d1 : ∀ W, Calls Try.prog 23 #[.int .i64 q.ga] W fun e w' => e = .returned (.bool true) ∧ w' = W := fun W => rtm_is q.ga h1 W
  have d2 : ∀ W, Calls Try.prog 23 #[.int .i64 q.fa] W fun e w' => e = .returned (.bool true) ∧ w' = W := fun W => rtm_is q.fa h2 W
  have d3 : ∀ W, Calls Try.prog 23 #[.int .i64 q.idt] W fun e w' => e = .returned (.bool false) ∧ w' = W := fun W => rtm_is q.idt h3 W
  clear h0 h1 h2 h3
  go_enter Try.func14, Try.ntmps14
  go_wp2_with (first | (refine wpS_box rfl rfl rfl ?_))
  intro X1 p HN
  have HX1 : Hid (Below w.heap.size w X1 ∧ Box X1 p 23 (rtL q) ∧ w.heap.size ≤ p ∧ True) := by
    have hb := Below.refl w.heap.size w
    obtain ⟨hg, hb2, bn⟩ := HN.out
    have hz := hb.size
    exact ⟨Below.on hb hb2, bn, by omega, trivial⟩
  clear HN 
  have k0 := Box.cell (HX1.out.2.1) 0 rfl
  have k1 := Box.cell (HX1.out.2.1) 1 rfl
  have k2 := Box.cell (HX1.out.2.1) 2 rfl
  have k3 := Box.cell (HX1.out.2.1) 3 rfl
  go_wp2_with fail
  refine (d0 _).mono ?_
  rintro e w' ⟨rfl, hq⟩
  obtain rfl := hq.symm
  clear hq
  go_wp2_with fail
  refine (d1 _).mono ?_
  rintro e w' ⟨rfl, hq⟩
  obtain rfl := hq.symm
  clear hq
  go_wp2_with fail
  refine (d2 _).mono ?_
  rintro e w' ⟨rfl, hq⟩
  obtain rfl := hq.symm
  clear hq
  go_wp2_with fail
  refine (d3 _).mono ?_
  rintro e w' ⟨rfl, hq⟩
  obtain rfl := hq.symm
  clear hq
  go_wp2_with fail
  go_ret
  exact ⟨rfl, HX1.out.1⟩

set_option maxRecDepth 100000 in
set_option maxHeartbeats 4000000 in
theorem rchk_4 (q : Rt) (h0 : tmB q.gv = true) (h1 : tmB q.ga = true) (h2 : tmB q.fa = true) (h3 : tmB q.idt = true) (w : World) : Calls Try.prog 14 #[agv (rtL q)] w fun e w' => e = .returned (.int .i64 0) ∧ Below w.heap.size w w' := by
  have d0 : ∀ W, Calls Try.prog 23 #[.int .i64 q.gv] W fun e w' => e = .returned (.bool true) ∧ w' = W := fun W => rtm_is q.gv h0 W
  have d1 : ∀ W, Calls Try.prog 23 #[.int .i64 q.ga] W fun e w' => e = .returned (.bool true) ∧ w' = W := fun W => rtm_is q.ga h1 W
  have d2 : ∀ W, Calls Try.prog 23 #[.int .i64 q.fa] W fun e w' => e = .returned (.bool true) ∧ w' = W := fun W => rtm_is q.fa h2 W
  have d3 : ∀ W, Calls Try.prog 23 #[.int .i64 q.idt] W fun e w' => e = .returned (.bool true) ∧ w' = W := fun W => rtm_is q.idt h3 W
  clear h0 h1 h2 h3
  go_enter Try.func14, Try.ntmps14
  go_wp2_with (first | (refine wpS_box rfl rfl rfl ?_))
  intro X1 p HN
  have HX1 : Hid (Below w.heap.size w X1 ∧ Box X1 p 23 (rtL q) ∧ w.heap.size ≤ p ∧ True) := by
    have hb := Below.refl w.heap.size w
    obtain ⟨hg, hb2, bn⟩ := HN.out
    have hz := hb.size
    exact ⟨Below.on hb hb2, bn, by omega, trivial⟩
  clear HN 
  have k0 := Box.cell (HX1.out.2.1) 0 rfl
  have k1 := Box.cell (HX1.out.2.1) 1 rfl
  have k2 := Box.cell (HX1.out.2.1) 2 rfl
  have k3 := Box.cell (HX1.out.2.1) 3 rfl
  go_wp2_with fail
  refine (d0 _).mono ?_
  rintro e w' ⟨rfl, hq⟩
  obtain rfl := hq.symm
  clear hq
  go_wp2_with fail
  refine (d1 _).mono ?_
  rintro e w' ⟨rfl, hq⟩
  obtain rfl := hq.symm
  clear hq
  go_wp2_with fail
  refine (d2 _).mono ?_
  rintro e w' ⟨rfl, hq⟩
  obtain rfl := hq.symm
  clear hq
  go_wp2_with fail
  refine (d3 _).mono ?_
  rintro e w' ⟨rfl, hq⟩
  obtain rfl := hq.symm
  clear hq
  go_wp2_with fail
  go_ret
  exact ⟨rfl, HX1.out.1⟩

theorem rchk_is (q : Rt) {r : Int} (hr : chkE q = r) (w : World) : Calls Try.prog 14 #[agv (rtL q)] w fun e w' => e = .returned (.int .i64 r) ∧ Below w.heap.size w w' := by
  subst hr
  unfold chkE okQ
  cases h0 : tmB q.gv with
  | false => rw [if_neg (by simp)]; exact rchk_0 q h0 w
  | true =>
  cases h1 : tmB q.ga with
  | false => rw [if_neg (by simp)]; exact rchk_1 q h0 h1 w
  | true =>
  cases h2 : tmB q.fa with
  | false => rw [if_neg (by simp)]; exact rchk_2 q h0 h1 h2 w
  | true =>
  cases h3 : tmB q.idt with
  | false => rw [if_neg (by simp)]; exact rchk_3 q h0 h1 h2 h3 w
  | true =>
  rw [if_pos (by simp)]; exact rchk_4 q h0 h1 h2 h3 w
end Go.Proofs.Ytdgiapeniafklaa
