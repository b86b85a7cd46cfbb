/- The small functions. -/
import Derived.Test.YtdacbmjahhefcaaBase
namespace Go.Proofs.Ytdacbmjahhefcaa
open Go.ChangeShapes Go.WideShapes Go.ChangeAt Go.RowKit Go.Shelf
set_option linter.unusedVariables false
set_option linter.unusedSimpArgs false

attribute [local go_sem] Oper.semAt_some
theorem isTime_walk (t : Int) (w : World) : Calls Try.prog 16 #[.int .i64 t] w fun e w' => e = .returned (.bool (timeB t)) ∧ w' = w := by
  go_enter Try.func16, Try.ntmps16
  go_wp2
  all_goals go_ret
  all_goals (refine ⟨ret_bool ?_, rfl⟩; unfold timeB; simp_all <;> omega)
theorem refTime_walk (t : Int) (w : World) : Calls Try.prog 20 #[.int .i64 t] w fun e w' => e = .returned (.bool (timeB t)) ∧ w' = w := by
  go_enter Try.func20, Try.ntmps20
  go_wp2
  all_goals go_ret
  all_goals (refine ⟨ret_bool ?_, rfl⟩; unfold timeB; simp_all <;> omega)
theorem refValue_walk (t : Int) (w : World) : Calls Try.prog 21 #[.int .i64 t] w fun e w' => e = .returned (.bool (valB t)) ∧ w' = w := by
  go_enter Try.func21, Try.ntmps21
  go_wp2
  all_goals go_ret
  all_goals (refine ⟨ret_bool ?_, rfl⟩; unfold valB; simp_all <;> omega)
theorem beats_walk (v u : Int) (m : Bool) (w : World) : Calls Try.prog 23 #[.int .i64 v, .int .i64 u, .bool m] w fun e w' => e = .returned (.bool (beatB v u m)) ∧ w' = w := by
  cases m
  · go_enter Try.func23, Try.ntmps23
    go_wp2
    all_goals go_ret
    all_goals (refine ⟨ret_bool ?_, rfl⟩; unfold beatB; simp_all)
  · go_enter Try.func23, Try.ntmps23
    go_wp2
    all_goals go_ret
    all_goals (refine ⟨ret_bool ?_, rfl⟩; unfold beatB; simp_all)
theorem isEntry_walk (x : Tm) (w : World) : Calls Try.prog 15 #[.agg #[.int .i64 x.1, .int .i64 x.2]] w fun e w' => e = .returned (.bool (entB x)) ∧ w' = w.alloc (.cells #[.int .i64 x.1, .int .i64 x.2] 28) := by
  obtain ⟨t, v⟩ := x
  obtain ⟨b, hb⟩ : ∃ b, timeB t = b := ⟨_, rfl⟩
  have c := isTime_walk t
  rw [hb] at c
  have HB : Hid (timeB t = b) := hb
  clear hb
  cases b
  all_goals (
    go_enter Try.func15, Try.ntmps15
    go_wp2_with (go_at_call 16; refine (c _).mono ?_; rintro e w' ⟨rfl, rfl⟩)
    all_goals go_ret
    all_goals (refine ⟨ret_bool ?_, rfl⟩; unfold entB valB; rw [HB.out]; simp_all <;> omega))
theorem mayFollow_walk (x y : Tm) (m : Bool) (w : World) : Calls Try.prog 22 #[.agg #[.int .i64 x.1, .int .i64 x.2], .agg #[.int .i64 y.1, .int .i64 y.2], .bool m] w fun e w' => e = .returned (.bool (folB x y m)) ∧ Below w.heap.size w w' := by
  obtain ⟨t, v⟩ := x
  obtain ⟨t', v'⟩ := y
  obtain ⟨b, hb⟩ : ∃ b, beatB v v' m = b := ⟨_, rfl⟩
  have c := beats_walk v v' m
  rw [hb] at c
  have HB : Hid (beatB v v' m = b) := hb
  clear hb
  by_cases h : t < t'
  all_goals (
    go_enter Try.func22, Try.ntmps22
    go_wp2_with (go_at_call 23; refine (c _).mono ?_; rintro e w' ⟨rfl, rfl⟩)
    all_goals go_ret
    all_goals (refine ⟨ret_bool ?_, ((Below.refl _ w).alloc (Nat.le_refl _) _).alloc (by simp) _⟩; unfold folB; rw [HB.out]; simp_all <;> (intro; omega)))
theorem part_walk (a : Option Addr) (n c f t : Nat) (w : World) (h : f ≤ t) (h2 : t ≤ c) : Calls Try.prog 24 #[.slice a n c, .int .i64 (f : Int), .int .i64 (t : Int)] w fun e w' => e = .returned (.slice (cutT a t f) (t - f) (t - f)) ∧ w' = w := by
  have e1 := sl_lhm a n c f t (f : Int) (t : Int) rfl rfl h h2
  obtain ⟨a', ha⟩ : ∃ a', cutT a t f = a' := ⟨_, rfl⟩
  obtain ⟨n', hn⟩ : ∃ n', t - f = n' := ⟨_, rfl⟩
  rw [ha, hn] at e1 ⊢
  clear ha hn
  go_enter Try.func24, Try.ntmps24
  go_wp2
  all_goals go_ret
  all_goals exact ⟨rfl, rfl⟩
theorem best_walk (a : Option Addr) (c : Nat) (l : List Tm) (w : World) (hT : TimsAt w a l) : Calls Try.prog 10 #[.slice a l.length c] w fun e w' => e = .returned (.tuple #[.int .i64 (bestV l), .bool (bestB l)]) ∧ w' = w := by
  cases l with
  | nil =>
    go_enter Try.func10, Try.ntmps10
    go_wp2
    all_goals go_ret2
    all_goals exact ⟨rfl, rfl⟩
  | cons x r =>
    obtain ⟨b, o, rfl, h0, h1⟩ := hT.2 0 (by simp)
    have hn : ((x :: r).length : Int) ≠ 0 := by simp; omega
    have hm : (x :: r).length ≤ 9223372036854775807 := hT.1
    have hp : 0 < (x :: r).length := by simp
    simp only [Nat.zero_mul, Nat.add_zero, List.getElem?_cons_zero, Option.getD_some] at h0 h1
    have HE : Hid (bestV (x :: r) = x.2 ∧ bestB (x :: r) = true) := ⟨rfl, rfl⟩
    obtain ⟨n, hl⟩ : ∃ n, (x :: r).length = n := ⟨_, rfl⟩
    rw [hl] at hn hm hp ⊢
    have hn2 : ((n : Int) == 0) = false := by simp; omega
    have hp2 : (0 : Int) < (n : Int) := by omega
    clear hl hT
    go_enter Try.func10, Try.ntmps10
    go_wp2
    all_goals go_ret2
    all_goals exact ⟨by rw [HE.out.1, HE.out.2]; rfl, rfl⟩
theorem refBest_walk (a : Option Addr) (c : Nat) (l : List Tm) (w : World) (hT : TimsAt w a l) : Calls Try.prog 11 #[.slice a l.length c] w fun e w' => e = .returned (.tuple #[.int .i64 (bestV l), .bool (bestB l)]) ∧ w' = w := by
  cases l with
  | nil =>
    go_enter Try.func11, Try.ntmps11
    go_wp2
    all_goals go_ret2
    all_goals exact ⟨rfl, rfl⟩
  | cons x r =>
    obtain ⟨b, o, rfl, h0, h1⟩ := hT.2 0 (by simp)
    have hn : ((x :: r).length : Int) ≠ 0 := by simp; omega
    have hm : (x :: r).length ≤ 9223372036854775807 := hT.1
    have hp : 0 < (x :: r).length := by simp
    simp only [Nat.zero_mul, Nat.add_zero, List.getElem?_cons_zero, Option.getD_some] at h0 h1
    have HE : Hid (bestV (x :: r) = x.2 ∧ bestB (x :: r) = true) := ⟨rfl, rfl⟩
    obtain ⟨n, hl⟩ : ∃ n, (x :: r).length = n := ⟨_, rfl⟩
    rw [hl] at hn hm hp ⊢
    have hn2 : ((n : Int) == 0) = false := by simp; omega
    have hp2 : (0 : Int) < (n : Int) := by omega
    clear hl hT
    go_enter Try.func11, Try.ntmps11
    go_wp2
    all_goals go_ret2
    all_goals exact ⟨by rw [HE.out.1, HE.out.2]; rfl, rfl⟩
end Go.Proofs.Ytdacbmjahhefcaa
