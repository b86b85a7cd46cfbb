/- Mark, refused at once. -/
import Derived.Test.YtfkkpianlmpknaaMarkP
namespace Go.Proofs.Ytfkkpianlmpknaa
open Go.ChangeShapes Go.WideShapes Go.ChangeAt Go.RowKit Go.Shelf
set_option linter.unusedVariables false
set_option linter.unusedSimpArgs false
attribute [local go_sem] Oper.semAt_some

theorem Boxed.newAt {W : World} {n : Nat} (h : W.heap.size = n) (t : TypeId) (v : Value) : Boxed (W.alloc (.cells #[v] t)) n t v := h ▸ Boxed.new W t v

set_option maxRecDepth 100000 in
set_option maxHeartbeats 4000000 in
theorem mark_no (ks ke kr : Int) (kn : Bool) (kf km ko kl : Int) (now wait : Int) (A : Option Addr) (cap : Nat) (ts : List Rc) (w : World) (k : okK ⟨ks, ke, kr, kn, kf, km, ko, kl⟩ = false) : Calls Try.prog 25 #[.agg #[.int .i64 ks, .int .i64 ke, .int .i64 kr, .bool kn, .int .i64 kf, .int .i64 km, .int .i64 ko, .int .i64 kl], .slice A ts.length cap, .int .i64 now, .int .i64 wait] w fun e w' => e = .returned (.tuple #[.slice none 0 0, .int .i64 0, .int .i64 230]) ∧ Below w.heap.size w w' := by
  have c1 : ∀ W, Calls Try.prog 11 #[.agg #[.int .i64 ks, .int .i64 ke, .int .i64 kr, .bool kn, .int .i64 kf, .int .i64 km, .int .i64 ko, .int .i64 kl]] W fun e w' => e = .returned (.int .i64 230) ∧ Below W.heap.size W w' := fun W => chk_no ks ke kr kn kf km ko kl k W
  clear k
  have HX : Hid (BoxK ((((((w.alloc (.cells #[.int .i64 ks, .int .i64 ke, .int .i64 kr, .bool kn, .int .i64 kf, .int .i64 km, .int .i64 ko, .int .i64 kl] 23)).alloc (.cells #[.int .i64 now] 3)).alloc (.cells #[.int .i64 wait] 3)).alloc (.cells #[.slice none 0 0] 46)).alloc (.cells #[.int .i64 0] 3)).alloc (.cells #[.int .i64 0] 26)) w.heap.size (.int .i64 ks) (.int .i64 ke) (.int .i64 kr) (.bool kn) (.int .i64 kf) (.int .i64 km) (.int .i64 ko) (.int .i64 kl) ∧ Boxed ((((((w.alloc (.cells #[.int .i64 ks, .int .i64 ke, .int .i64 kr, .bool kn, .int .i64 kf, .int .i64 km, .int .i64 ko, .int .i64 kl] 23)).alloc (.cells #[.int .i64 now] 3)).alloc (.cells #[.int .i64 wait] 3)).alloc (.cells #[.slice none 0 0] 46)).alloc (.cells #[.int .i64 0] 3)).alloc (.cells #[.int .i64 0] 26)) (w.heap.size + 1) 3 (.int .i64 now) ∧ Boxed ((((((w.alloc (.cells #[.int .i64 ks, .int .i64 ke, .int .i64 kr, .bool kn, .int .i64 kf, .int .i64 km, .int .i64 ko, .int .i64 kl] 23)).alloc (.cells #[.int .i64 now] 3)).alloc (.cells #[.int .i64 wait] 3)).alloc (.cells #[.slice none 0 0] 46)).alloc (.cells #[.int .i64 0] 3)).alloc (.cells #[.int .i64 0] 26)) (w.heap.size + 2) 3 (.int .i64 wait) ∧ Boxed ((((((w.alloc (.cells #[.int .i64 ks, .int .i64 ke, .int .i64 kr, .bool kn, .int .i64 kf, .int .i64 km, .int .i64 ko, .int .i64 kl] 23)).alloc (.cells #[.int .i64 now] 3)).alloc (.cells #[.int .i64 wait] 3)).alloc (.cells #[.slice none 0 0] 46)).alloc (.cells #[.int .i64 0] 3)).alloc (.cells #[.int .i64 0] 26)) (w.heap.size + 3) 46 (.slice none 0 0) ∧ Boxed ((((((w.alloc (.cells #[.int .i64 ks, .int .i64 ke, .int .i64 kr, .bool kn, .int .i64 kf, .int .i64 km, .int .i64 ko, .int .i64 kl] 23)).alloc (.cells #[.int .i64 now] 3)).alloc (.cells #[.int .i64 wait] 3)).alloc (.cells #[.slice none 0 0] 46)).alloc (.cells #[.int .i64 0] 3)).alloc (.cells #[.int .i64 0] 26)) (w.heap.size + 4) 3 (.int .i64 0) ∧ Boxed ((((((w.alloc (.cells #[.int .i64 ks, .int .i64 ke, .int .i64 kr, .bool kn, .int .i64 kf, .int .i64 km, .int .i64 ko, .int .i64 kl] 23)).alloc (.cells #[.int .i64 now] 3)).alloc (.cells #[.int .i64 wait] 3)).alloc (.cells #[.slice none 0 0] 46)).alloc (.cells #[.int .i64 0] 3)).alloc (.cells #[.int .i64 0] 26)) (w.heap.size + 5) 26 (.int .i64 0) ∧ Below w.heap.size w ((((((w.alloc (.cells #[.int .i64 ks, .int .i64 ke, .int .i64 kr, .bool kn, .int .i64 kf, .int .i64 km, .int .i64 ko, .int .i64 kl] 23)).alloc (.cells #[.int .i64 now] 3)).alloc (.cells #[.int .i64 wait] 3)).alloc (.cells #[.slice none 0 0] 46)).alloc (.cells #[.int .i64 0] 3)).alloc (.cells #[.int .i64 0] 26))) := ⟨((((((BoxK.new w _ _ _ _ _ _ _ _).alloc _).alloc _).alloc _).alloc _).alloc _), ((((Boxed.newAt (by simp) _ _).alloc _).alloc _).alloc _).alloc _, (((Boxed.newAt (by simp) _ _).alloc _).alloc _).alloc _, ((Boxed.newAt (by simp) _ _).alloc _).alloc _, (Boxed.newAt (by simp) _ _).alloc _, Boxed.newAt (by simp) _ _, below_more (below_more (below_more (below_more (below_more (below_new w _) _) _) _) _) _⟩
  have HS0 : Hid (((((((w.alloc (.cells #[.int .i64 ks, .int .i64 ke, .int .i64 kr, .bool kn, .int .i64 kf, .int .i64 km, .int .i64 ko, .int .i64 kl] 23)).alloc (.cells #[.int .i64 now] 3)).alloc (.cells #[.int .i64 wait] 3)).alloc (.cells #[.slice none 0 0] 46)).alloc (.cells #[.int .i64 0] 3)).alloc (.cells #[.int .i64 0] 26)).heap.size = w.heap.size + 6) := by simp [Hid]
  refine (callsIn_wide (n := 6)).1 ?_
  refine callsIn_of_wp_marks Try.func25 rfl trivial ?_ rfl
  simp only [Try.ntmps25, List.size_toArray, List.length_cons, List.length_nil, Nat.reduceAdd, Nat.reduceSub, Array.replicate_succ, Array.replicate_zero, List.push_toArray, List.append_toArray, List.nil_append, List.cons_append]
  gi_wp2_with fail
  refine wpIn_scope ?_
  obtain ⟨V0, hV0⟩ : ∃ V0, ((((((w.alloc (.cells #[.int .i64 ks, .int .i64 ke, .int .i64 kr, .bool kn, .int .i64 kf, .int .i64 km, .int .i64 ko, .int .i64 kl] 23)).alloc (.cells #[.int .i64 now] 3)).alloc (.cells #[.int .i64 wait] 3)).alloc (.cells #[.slice none 0 0] 46)).alloc (.cells #[.int .i64 0] 3)).alloc (.cells #[.int .i64 0] 26)) = V0 := ⟨_, rfl⟩
  rw [hV0] at HX HS0
  rw [hV0]
  clear hV0
  obtain ⟨k0, k1, k2, k3, k4, k5, k6, k7⟩ := HX.out.1.cells
  gi_wp2_with fail
  refine ⟨trivial, ?_⟩
  gi_at_call 11
  refine (callsIn_wide.2 (c1 _)).mono ?_
  rintro e w1 ⟨rfl, hB1⟩
  clear k0 k1 k2 k3 k4 k5 k6 k7
  have HX1 : Hid ((BoxK w1 w.heap.size (.int .i64 ks) (.int .i64 ke) (.int .i64 kr) (.bool kn) (.int .i64 kf) (.int .i64 km) (.int .i64 ko) (.int .i64 kl) ∧ Boxed w1 (w.heap.size + 1) 3 (.int .i64 now) ∧ Boxed w1 (w.heap.size + 2) 3 (.int .i64 wait) ∧ Boxed w1 (w.heap.size + 3) 46 (.slice none 0 0) ∧ Boxed w1 (w.heap.size + 4) 3 (.int .i64 0) ∧ Boxed w1 (w.heap.size + 5) 26 (.int .i64 0) ∧ Below w.heap.size w w1) ∧ w.heap.size + 6 ≤ w1.heap.size) := ⟨⟨HX.out.1.later hB1, boxed_bel HX.out.2.1 hB1 HX.out.2.1.lt, boxed_bel HX.out.2.2.1 hB1 HX.out.2.2.1.lt, boxed_bel HX.out.2.2.2.1 hB1 HX.out.2.2.2.1.lt, boxed_bel HX.out.2.2.2.2.1 hB1 HX.out.2.2.2.2.1.lt, boxed_bel HX.out.2.2.2.2.2.1 hB1 HX.out.2.2.2.2.2.1.lt, Below.on HX.out.2.2.2.2.2.2 hB1⟩, by have := hB1.size; have := HS0.out; omega⟩
  clear HX HS0 hB1 c1
  have n1 := HX1.out.1.2.1.cell
  have n2 := HX1.out.1.2.2.1.cell
  have e3 := HX1.out.1.2.2.2.1.cell
  have e4 := HX1.out.1.2.2.2.2.1.cell
  have e5 := HX1.out.1.2.2.2.2.2.1.cell
  have f3 := HX1.out.1.2.2.2.1.frozen
  have f4 := HX1.out.1.2.2.2.2.1.frozen
  have f5 := HX1.out.1.2.2.2.2.2.1.frozen
  gi_wp2_with fail
  have g3 := (boxed_other (boxed_other (HX1.out.1.2.2.2.1.set (.slice none 0 0)) (show w.heap.size + 3 ≠ w.heap.size + 4 by omega) 0 (.int .i64 0)) (show w.heap.size + 3 ≠ w.heap.size + 5 by omega) 0 (.int .i64 230)).cell
  have g4 := (boxed_other ((boxed_other HX1.out.1.2.2.2.2.1 (show w.heap.size + 4 ≠ w.heap.size + 3 by omega) 0 (.slice none 0 0)).set (.int .i64 0)) (show w.heap.size + 4 ≠ w.heap.size + 5 by omega) 0 (.int .i64 230)).cell
  have g5 := ((boxed_other (boxed_other HX1.out.1.2.2.2.2.2.1 (show w.heap.size + 5 ≠ w.heap.size + 3 by omega) 0 (.slice none 0 0)) (show w.heap.size + 5 ≠ w.heap.size + 4 by omega) 0 (.int .i64 0)).set (.int .i64 230)).cell
  refine ⟨.tuple #[.slice none 0 0, .int .i64 0, .int .i64 230], ?_, rfl, below_set (below_set (below_set HX1.out.1.2.2.2.2.2.2 _ _ _ (by omega)) _ _ _ (by omega)) _ _ _ (by omega)⟩
  simp [results, Try.f25, go_sem, g3, g4, g5]

set_option maxRecDepth 100000 in
set_option maxHeartbeats 4000000 in
theorem mark_now (ks ke kr : Int) (kn : Bool) (kf km ko kl : Int) (now wait : Int) (A : Option Addr) (cap : Nat) (ts : List Rc) (w : World) (k : okK ⟨ks, ke, kr, kn, kf, km, ko, kl⟩ = true) (q1 : tmB now = false) : Calls Try.prog 25 #[.agg #[.int .i64 ks, .int .i64 ke, .int .i64 kr, .bool kn, .int .i64 kf, .int .i64 km, .int .i64 ko, .int .i64 kl], .slice A ts.length cap, .int .i64 now, .int .i64 wait] w fun e w' => e = .returned (.tuple #[.slice none 0 0, .int .i64 0, .int .i64 2]) ∧ Below w.heap.size w w' := by
  have c1 : ∀ W, Calls Try.prog 11 #[.agg #[.int .i64 ks, .int .i64 ke, .int .i64 kr, .bool kn, .int .i64 kf, .int .i64 km, .int .i64 ko, .int .i64 kl]] W fun e w' => e = .returned (.int .i64 0) ∧ Below W.heap.size W w' := fun W => chk_yes ks ke kr kn kf km ko kl k W
  have c2 := isTime_is now false q1
  clear k q1
  have HX : Hid (BoxK ((((((w.alloc (.cells #[.int .i64 ks, .int .i64 ke, .int .i64 kr, .bool kn, .int .i64 kf, .int .i64 km, .int .i64 ko, .int .i64 kl] 23)).alloc (.cells #[.int .i64 now] 3)).alloc (.cells #[.int .i64 wait] 3)).alloc (.cells #[.slice none 0 0] 46)).alloc (.cells #[.int .i64 0] 3)).alloc (.cells #[.int .i64 0] 26)) w.heap.size (.int .i64 ks) (.int .i64 ke) (.int .i64 kr) (.bool kn) (.int .i64 kf) (.int .i64 km) (.int .i64 ko) (.int .i64 kl) ∧ Boxed ((((((w.alloc (.cells #[.int .i64 ks, .int .i64 ke, .int .i64 kr, .bool kn, .int .i64 kf, .int .i64 km, .int .i64 ko, .int .i64 kl] 23)).alloc (.cells #[.int .i64 now] 3)).alloc (.cells #[.int .i64 wait] 3)).alloc (.cells #[.slice none 0 0] 46)).alloc (.cells #[.int .i64 0] 3)).alloc (.cells #[.int .i64 0] 26)) (w.heap.size + 1) 3 (.int .i64 now) ∧ Boxed ((((((w.alloc (.cells #[.int .i64 ks, .int .i64 ke, .int .i64 kr, .bool kn, .int .i64 kf, .int .i64 km, .int .i64 ko, .int .i64 kl] 23)).alloc (.cells #[.int .i64 now] 3)).alloc (.cells #[.int .i64 wait] 3)).alloc (.cells #[.slice none 0 0] 46)).alloc (.cells #[.int .i64 0] 3)).alloc (.cells #[.int .i64 0] 26)) (w.heap.size + 2) 3 (.int .i64 wait) ∧ Boxed ((((((w.alloc (.cells #[.int .i64 ks, .int .i64 ke, .int .i64 kr, .bool kn, .int .i64 kf, .int .i64 km, .int .i64 ko, .int .i64 kl] 23)).alloc (.cells #[.int .i64 now] 3)).alloc (.cells #[.int .i64 wait] 3)).alloc (.cells #[.slice none 0 0] 46)).alloc (.cells #[.int .i64 0] 3)).alloc (.cells #[.int .i64 0] 26)) (w.heap.size + 3) 46 (.slice none 0 0) ∧ Boxed ((((((w.alloc (.cells #[.int .i64 ks, .int .i64 ke, .int .i64 kr, .bool kn, .int .i64 kf, .int .i64 km, .int .i64 ko, .int .i64 kl] 23)).alloc (.cells #[.int .i64 now] 3)).alloc (.cells #[.int .i64 wait] 3)).alloc (.cells #[.slice none 0 0] 46)).alloc (.cells #[.int .i64 0] 3)).alloc (.cells #[.int .i64 0] 26)) (w.heap.size + 4) 3 (.int .i64 0) ∧ Boxed ((((((w.alloc (.cells #[.int .i64 ks, .int .i64 ke, .int .i64 kr, .bool kn, .int .i64 kf, .int .i64 km, .int .i64 ko, .int .i64 kl] 23)).alloc (.cells #[.int .i64 now] 3)).alloc (.cells #[.int .i64 wait] 3)).alloc (.cells #[.slice none 0 0] 46)).alloc (.cells #[.int .i64 0] 3)).alloc (.cells #[.int .i64 0] 26)) (w.heap.size + 5) 26 (.int .i64 0) ∧ Below w.heap.size w ((((((w.alloc (.cells #[.int .i64 ks, .int .i64 ke, .int .i64 kr, .bool kn, .int .i64 kf, .int .i64 km, .int .i64 ko, .int .i64 kl] 23)).alloc (.cells #[.int .i64 now] 3)).alloc (.cells #[.int .i64 wait] 3)).alloc (.cells #[.slice none 0 0] 46)).alloc (.cells #[.int .i64 0] 3)).alloc (.cells #[.int .i64 0] 26))) := ⟨((((((BoxK.new w _ _ _ _ _ _ _ _).alloc _).alloc _).alloc _).alloc _).alloc _), ((((Boxed.newAt (by simp) _ _).alloc _).alloc _).alloc _).alloc _, (((Boxed.newAt (by simp) _ _).alloc _).alloc _).alloc _, ((Boxed.newAt (by simp) _ _).alloc _).alloc _, (Boxed.newAt (by simp) _ _).alloc _, Boxed.newAt (by simp) _ _, below_more (below_more (below_more (below_more (below_more (below_new w _) _) _) _) _) _⟩
  have HS0 : Hid (((((((w.alloc (.cells #[.int .i64 ks, .int .i64 ke, .int .i64 kr, .bool kn, .int .i64 kf, .int .i64 km, .int .i64 ko, .int .i64 kl] 23)).alloc (.cells #[.int .i64 now] 3)).alloc (.cells #[.int .i64 wait] 3)).alloc (.cells #[.slice none 0 0] 46)).alloc (.cells #[.int .i64 0] 3)).alloc (.cells #[.int .i64 0] 26)).heap.size = w.heap.size + 6) := by simp [Hid]
  refine (callsIn_wide (n := 6)).1 ?_
  refine callsIn_of_wp_marks Try.func25 rfl trivial ?_ rfl
  simp only [Try.ntmps25, List.size_toArray, List.length_cons, List.length_nil, Nat.reduceAdd, Nat.reduceSub, Array.replicate_succ, Array.replicate_zero, List.push_toArray, List.append_toArray, List.nil_append, List.cons_append]
  gi_wp2_with fail
  refine wpIn_scope ?_
  obtain ⟨V0, hV0⟩ : ∃ V0, ((((((w.alloc (.cells #[.int .i64 ks, .int .i64 ke, .int .i64 kr, .bool kn, .int .i64 kf, .int .i64 km, .int .i64 ko, .int .i64 kl] 23)).alloc (.cells #[.int .i64 now] 3)).alloc (.cells #[.int .i64 wait] 3)).alloc (.cells #[.slice none 0 0] 46)).alloc (.cells #[.int .i64 0] 3)).alloc (.cells #[.int .i64 0] 26)) = V0 := ⟨_, rfl⟩
  rw [hV0] at HX HS0
  rw [hV0]
  clear hV0
  obtain ⟨k0, k1, k2, k3, k4, k5, k6, k7⟩ := HX.out.1.cells
  gi_wp2_with fail
  refine ⟨trivial, ?_⟩
  gi_at_call 11
  refine (callsIn_wide.2 (c1 _)).mono ?_
  rintro e w1 ⟨rfl, hB1⟩
  clear k0 k1 k2 k3 k4 k5 k6 k7
  have HX1 : Hid ((BoxK w1 w.heap.size (.int .i64 ks) (.int .i64 ke) (.int .i64 kr) (.bool kn) (.int .i64 kf) (.int .i64 km) (.int .i64 ko) (.int .i64 kl) ∧ Boxed w1 (w.heap.size + 1) 3 (.int .i64 now) ∧ Boxed w1 (w.heap.size + 2) 3 (.int .i64 wait) ∧ Boxed w1 (w.heap.size + 3) 46 (.slice none 0 0) ∧ Boxed w1 (w.heap.size + 4) 3 (.int .i64 0) ∧ Boxed w1 (w.heap.size + 5) 26 (.int .i64 0) ∧ Below w.heap.size w w1) ∧ w.heap.size + 6 ≤ w1.heap.size) := ⟨⟨HX.out.1.later hB1, boxed_bel HX.out.2.1 hB1 HX.out.2.1.lt, boxed_bel HX.out.2.2.1 hB1 HX.out.2.2.1.lt, boxed_bel HX.out.2.2.2.1 hB1 HX.out.2.2.2.1.lt, boxed_bel HX.out.2.2.2.2.1 hB1 HX.out.2.2.2.2.1.lt, boxed_bel HX.out.2.2.2.2.2.1 hB1 HX.out.2.2.2.2.2.1.lt, Below.on HX.out.2.2.2.2.2.2 hB1⟩, by have := hB1.size; have := HS0.out; omega⟩
  clear HX HS0 hB1 c1
  have n1 := HX1.out.1.2.1.cell
  have n2 := HX1.out.1.2.2.1.cell
  have e3 := HX1.out.1.2.2.2.1.cell
  have e4 := HX1.out.1.2.2.2.2.1.cell
  have e5 := HX1.out.1.2.2.2.2.2.1.cell
  have f3 := HX1.out.1.2.2.2.1.frozen
  have f4 := HX1.out.1.2.2.2.2.1.frozen
  have f5 := HX1.out.1.2.2.2.2.2.1.frozen
  gi_wp2_with fail
  refine ⟨trivial, ?_⟩
  gi_at_call 28
  refine (callsIn_wide.2 (c2 _)).mono ?_
  rintro e w' ⟨rfl, rfl⟩
  gi_wp2_with fail
  refine ⟨trivial, ?_⟩
  gi_wp2_with fail
  have g3 := (boxed_other (boxed_other (HX1.out.1.2.2.2.1.set (.slice none 0 0)) (show w.heap.size + 3 ≠ w.heap.size + 4 by omega) 0 (.int .i64 0)) (show w.heap.size + 3 ≠ w.heap.size + 5 by omega) 0 (.int .i64 2)).cell
  have g4 := (boxed_other ((boxed_other HX1.out.1.2.2.2.2.1 (show w.heap.size + 4 ≠ w.heap.size + 3 by omega) 0 (.slice none 0 0)).set (.int .i64 0)) (show w.heap.size + 4 ≠ w.heap.size + 5 by omega) 0 (.int .i64 2)).cell
  have g5 := ((boxed_other (boxed_other HX1.out.1.2.2.2.2.2.1 (show w.heap.size + 5 ≠ w.heap.size + 3 by omega) 0 (.slice none 0 0)) (show w.heap.size + 5 ≠ w.heap.size + 4 by omega) 0 (.int .i64 0)).set (.int .i64 2)).cell
  refine ⟨.tuple #[.slice none 0 0, .int .i64 0, .int .i64 2], ?_, rfl, below_set (below_set (below_set HX1.out.1.2.2.2.2.2.2 _ _ _ (by omega)) _ _ _ (by omega)) _ _ _ (by omega)⟩
  simp [results, Try.f25, go_sem, g3, g4, g5]

set_option maxRecDepth 100000 in
set_option maxHeartbeats 4000000 in
theorem mark_wait (ks ke kr : Int) (kn : Bool) (kf km ko kl : Int) (now wait : Int) (A : Option Addr) (cap : Nat) (ts : List Rc) (w : World) (k : okK ⟨ks, ke, kr, kn, kf, km, ko, kl⟩ = true) (q1 : tmB now = true) (q2 : tmB wait = false) : Calls Try.prog 25 #[.agg #[.int .i64 ks, .int .i64 ke, .int .i64 kr, .bool kn, .int .i64 kf, .int .i64 km, .int .i64 ko, .int .i64 kl], .slice A ts.length cap, .int .i64 now, .int .i64 wait] w fun e w' => e = .returned (.tuple #[.slice none 0 0, .int .i64 0, .int .i64 2]) ∧ Below w.heap.size w w' := by
  have c1 : ∀ W, Calls Try.prog 11 #[.agg #[.int .i64 ks, .int .i64 ke, .int .i64 kr, .bool kn, .int .i64 kf, .int .i64 km, .int .i64 ko, .int .i64 kl]] W fun e w' => e = .returned (.int .i64 0) ∧ Below W.heap.size W w' := fun W => chk_yes ks ke kr kn kf km ko kl k W
  have c2 := isTime_is now true q1
  have c3 := isTime_is wait false q2
  clear k q1 q2
  have HX : Hid (BoxK ((((((w.alloc (.cells #[.int .i64 ks, .int .i64 ke, .int .i64 kr, .bool kn, .int .i64 kf, .int .i64 km, .int .i64 ko, .int .i64 kl] 23)).alloc (.cells #[.int .i64 now] 3)).alloc (.cells #[.int .i64 wait] 3)).alloc (.cells #[.slice none 0 0] 46)).alloc (.cells #[.int .i64 0] 3)).alloc (.cells #[.int .i64 0] 26)) w.heap.size (.int .i64 ks) (.int .i64 ke) (.int .i64 kr) (.bool kn) (.int .i64 kf) (.int .i64 km) (.int .i64 ko) (.int .i64 kl) ∧ Boxed ((((((w.alloc (.cells #[.int .i64 ks, .int .i64 ke, .int .i64 kr, .bool kn, .int .i64 kf, .int .i64 km, .int .i64 ko, .int .i64 kl] 23)).alloc (.cells #[.int .i64 now] 3)).alloc (.cells #[.int .i64 wait] 3)).alloc (.cells #[.slice none 0 0] 46)).alloc (.cells #[.int .i64 0] 3)).alloc (.cells #[.int .i64 0] 26)) (w.heap.size + 1) 3 (.int .i64 now) ∧ Boxed ((((((w.alloc (.cells #[.int .i64 ks, .int .i64 ke, .int .i64 kr, .bool kn, .int .i64 kf, .int .i64 km, .int .i64 ko, .int .i64 kl] 23)).alloc (.cells #[.int .i64 now] 3)).alloc (.cells #[.int .i64 wait] 3)).alloc (.cells #[.slice none 0 0] 46)).alloc (.cells #[.int .i64 0] 3)).alloc (.cells #[.int .i64 0] 26)) (w.heap.size + 2) 3 (.int .i64 wait) ∧ Boxed ((((((w.alloc (.cells #[.int .i64 ks, .int .i64 ke, .int .i64 kr, .bool kn, .int .i64 kf, .int .i64 km, .int .i64 ko, .int .i64 kl] 23)).alloc (.cells #[.int .i64 now] 3)).alloc (.cells #[.int .i64 wait] 3)).alloc (.cells #[.slice none 0 0] 46)).alloc (.cells #[.int .i64 0] 3)).alloc (.cells #[.int .i64 0] 26)) (w.heap.size + 3) 46 (.slice none 0 0) ∧ Boxed ((((((w.alloc (.cells #[.int .i64 ks, .int .i64 ke, .int .i64 kr, .bool kn, .int .i64 kf, .int .i64 km, .int .i64 ko, .int .i64 kl] 23)).alloc (.cells #[.int .i64 now] 3)).alloc (.cells #[.int .i64 wait] 3)).alloc (.cells #[.slice none 0 0] 46)).alloc (.cells #[.int .i64 0] 3)).alloc (.cells #[.int .i64 0] 26)) (w.heap.size + 4) 3 (.int .i64 0) ∧ Boxed ((((((w.alloc (.cells #[.int .i64 ks, .int .i64 ke, .int .i64 kr, .bool kn, .int .i64 kf, .int .i64 km, .int .i64 ko, .int .i64 kl] 23)).alloc (.cells #[.int .i64 now] 3)).alloc (.cells #[.int .i64 wait] 3)).alloc (.cells #[.slice none 0 0] 46)).alloc (.cells #[.int .i64 0] 3)).alloc (.cells #[.int .i64 0] 26)) (w.heap.size + 5) 26 (.int .i64 0) ∧ Below w.heap.size w ((((((w.alloc (.cells #[.int .i64 ks, .int .i64 ke, .int .i64 kr, .bool kn, .int .i64 kf, .int .i64 km, .int .i64 ko, .int .i64 kl] 23)).alloc (.cells #[.int .i64 now] 3)).alloc (.cells #[.int .i64 wait] 3)).alloc (.cells #[.slice none 0 0] 46)).alloc (.cells #[.int .i64 0] 3)).alloc (.cells #[.int .i64 0] 26))) := ⟨((((((BoxK.new w _ _ _ _ _ _ _ _).alloc _).alloc _).alloc _).alloc _).alloc _), ((((Boxed.newAt (by simp) _ _).alloc _).alloc _).alloc _).alloc _, (((Boxed.newAt (by simp) _ _).alloc _).alloc _).alloc _, ((Boxed.newAt (by simp) _ _).alloc _).alloc _, (Boxed.newAt (by simp) _ _).alloc _, Boxed.newAt (by simp) _ _, below_more (below_more (below_more (below_more (below_more (below_new w _) _) _) _) _) _⟩
  have HS0 : Hid (((((((w.alloc (.cells #[.int .i64 ks, .int .i64 ke, .int .i64 kr, .bool kn, .int .i64 kf, .int .i64 km, .int .i64 ko, .int .i64 kl] 23)).alloc (.cells #[.int .i64 now] 3)).alloc (.cells #[.int .i64 wait] 3)).alloc (.cells #[.slice none 0 0] 46)).alloc (.cells #[.int .i64 0] 3)).alloc (.cells #[.int .i64 0] 26)).heap.size = w.heap.size + 6) := by simp [Hid]
  refine (callsIn_wide (n := 6)).1 ?_
  refine callsIn_of_wp_marks Try.func25 rfl trivial ?_ rfl
  simp only [Try.ntmps25, List.size_toArray, List.length_cons, List.length_nil, Nat.reduceAdd, Nat.reduceSub, Array.replicate_succ, Array.replicate_zero, List.push_toArray, List.append_toArray, List.nil_append, List.cons_append]
  gi_wp2_with fail
  refine wpIn_scope ?_
  obtain ⟨V0, hV0⟩ : ∃ V0, ((((((w.alloc (.cells #[.int .i64 ks, .int .i64 ke, .int .i64 kr, .bool kn, .int .i64 kf, .int .i64 km, .int .i64 ko, .int .i64 kl] 23)).alloc (.cells #[.int .i64 now] 3)).alloc (.cells #[.int .i64 wait] 3)).alloc (.cells #[.slice none 0 0] 46)).alloc (.cells #[.int .i64 0] 3)).alloc (.cells #[.int .i64 0] 26)) = V0 := ⟨_, rfl⟩
  rw [hV0] at HX HS0
  rw [hV0]
  clear hV0
  obtain ⟨k0, k1, k2, k3, k4, k5, k6, k7⟩ := HX.out.1.cells
  gi_wp2_with fail
  refine ⟨trivial, ?_⟩
  gi_at_call 11
  refine (callsIn_wide.2 (c1 _)).mono ?_
  rintro e w1 ⟨rfl, hB1⟩
  clear k0 k1 k2 k3 k4 k5 k6 k7
  have HX1 : Hid ((BoxK w1 w.heap.size (.int .i64 ks) (.int .i64 ke) (.int .i64 kr) (.bool kn) (.int .i64 kf) (.int .i64 km) (.int .i64 ko) (.int .i64 kl) ∧ Boxed w1 (w.heap.size + 1) 3 (.int .i64 now) ∧ Boxed w1 (w.heap.size + 2) 3 (.int .i64 wait) ∧ Boxed w1 (w.heap.size + 3) 46 (.slice none 0 0) ∧ Boxed w1 (w.heap.size + 4) 3 (.int .i64 0) ∧ Boxed w1 (w.heap.size + 5) 26 (.int .i64 0) ∧ Below w.heap.size w w1) ∧ w.heap.size + 6 ≤ w1.heap.size) := ⟨⟨HX.out.1.later hB1, boxed_bel HX.out.2.1 hB1 HX.out.2.1.lt, boxed_bel HX.out.2.2.1 hB1 HX.out.2.2.1.lt, boxed_bel HX.out.2.2.2.1 hB1 HX.out.2.2.2.1.lt, boxed_bel HX.out.2.2.2.2.1 hB1 HX.out.2.2.2.2.1.lt, boxed_bel HX.out.2.2.2.2.2.1 hB1 HX.out.2.2.2.2.2.1.lt, Below.on HX.out.2.2.2.2.2.2 hB1⟩, by have := hB1.size; have := HS0.out; omega⟩
  clear HX HS0 hB1 c1
  have n1 := HX1.out.1.2.1.cell
  have n2 := HX1.out.1.2.2.1.cell
  have e3 := HX1.out.1.2.2.2.1.cell
  have e4 := HX1.out.1.2.2.2.2.1.cell
  have e5 := HX1.out.1.2.2.2.2.2.1.cell
  have f3 := HX1.out.1.2.2.2.1.frozen
  have f4 := HX1.out.1.2.2.2.2.1.frozen
  have f5 := HX1.out.1.2.2.2.2.2.1.frozen
  gi_wp2_with fail
  refine ⟨trivial, ?_⟩
  gi_at_call 28
  refine (callsIn_wide.2 (c2 _)).mono ?_
  rintro e w' ⟨rfl, rfl⟩
  gi_wp2_with fail
  refine ⟨trivial, ?_⟩
  gi_at_call 28
  refine (callsIn_wide.2 (c3 _)).mono ?_
  rintro e w' ⟨rfl, rfl⟩
  gi_wp2_with fail
  have g3 := (boxed_other (boxed_other (HX1.out.1.2.2.2.1.set (.slice none 0 0)) (show w.heap.size + 3 ≠ w.heap.size + 4 by omega) 0 (.int .i64 0)) (show w.heap.size + 3 ≠ w.heap.size + 5 by omega) 0 (.int .i64 2)).cell
  have g4 := (boxed_other ((boxed_other HX1.out.1.2.2.2.2.1 (show w.heap.size + 4 ≠ w.heap.size + 3 by omega) 0 (.slice none 0 0)).set (.int .i64 0)) (show w.heap.size + 4 ≠ w.heap.size + 5 by omega) 0 (.int .i64 2)).cell
  have g5 := ((boxed_other (boxed_other HX1.out.1.2.2.2.2.2.1 (show w.heap.size + 5 ≠ w.heap.size + 3 by omega) 0 (.slice none 0 0)) (show w.heap.size + 5 ≠ w.heap.size + 4 by omega) 0 (.int .i64 0)).set (.int .i64 2)).cell
  refine ⟨.tuple #[.slice none 0 0, .int .i64 0, .int .i64 2], ?_, rfl, below_set (below_set (below_set HX1.out.1.2.2.2.2.2.2 _ _ _ (by omega)) _ _ _ (by omega)) _ _ _ (by omega)⟩
  simp [results, Try.f25, go_sem, g3, g4, g5]
end Go.Proofs.Ytfkkpianlmpknaa
