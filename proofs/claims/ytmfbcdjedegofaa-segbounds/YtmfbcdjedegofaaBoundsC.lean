/- The walk of SegBounds: a segment goes, and more is left. -/
import Derived.Test.YtmfbcdjedegofaaHeads
import Derived.Test.YtmfbcdjedegofaaKinds
namespace Go.Proofs.Ytmfbcdjedegofaa
open Go.ChangeShapes Go.WideShapes Go.ChangeAt Go.RowKit
set_option linter.unusedVariables false


set_option maxRecDepth 100000 in
set_option maxHeartbeats 4000000 in
theorem bounds_k3t_walk (nx en : Int) (cl : Bool) (ed un ms rm mo : Int) (na : Bool) (w : World) (hI : Ints nx en ed un ms rm mo) (t : Int) (hm : 1 ≤ ms) (hl : nx < t) (ht : t < en) (hs : t ≤ nx + 1) (hd : en - nx ≤ 9223372036854775807) (c1 : ∀ W, Calls Try.prog 8 #[.agg #[.int .i64 nx, .int .i64 en, .bool cl, .bool false, .int .i64 ed, .int .i64 un, .int .i64 ms, .int .i64 rm, .int .i64 mo, .bool na, .bool true]] W fun e w' => e = .returned (.tuple #[.agg #[.int .i64 nx, .int .i64 t, .bool false, .bool false], .bool true, .int .i64 0]) ∧ Below W.heap.size W w') : Calls Try.prog 4 #[.agg #[.int .i64 nx, .int .i64 en, .bool cl, .bool false, .int .i64 ed, .int .i64 un, .int .i64 ms, .int .i64 rm, .int .i64 mo, .bool na, .bool true]] w fun e w' => e = .returned (.bool true) ∧ Below w.heap.size w w' := by
  have HX : Hid (BoxW (w.alloc (.cells #[.int .i64 nx, .int .i64 en, .bool cl, .bool false, .int .i64 ed, .int .i64 un, .int .i64 ms, .int .i64 rm, .int .i64 mo, .bool na, .bool true] 23)) w.heap.size (.int .i64 nx) (.int .i64 en) (.bool cl) (.bool false) (.int .i64 ed) (.int .i64 un) (.int .i64 ms) (.int .i64 rm) (.int .i64 mo) (.bool na) (.bool true)) := BoxW.new w (.int .i64 nx) (.int .i64 en) (.bool cl) (.bool false) (.int .i64 ed) (.int .i64 un) (.int .i64 ms) (.int .i64 rm) (.int .i64 mo) (.bool na) (.bool true)
  have HB : Hid (Below w.heap.size w (w.alloc (.cells #[.int .i64 nx, .int .i64 en, .bool cl, .bool false, .int .i64 ed, .int .i64 un, .int .i64 ms, .int .i64 rm, .int .i64 mo, .bool na, .bool true] 23))) := below_more (Below.refl _ _) _

  unfold Ints I64 at hI
  have c2 := heads_any
  have b1 : decide (t - nx < 0) = false := by simp; omega
  have b2 : decide (ms < t - nx) = false := by simp; omega
  have b3 : decide (en < t) = false := by simp; omega
  have b4 : (t - nx == 0) = false := by simp; omega
  have b5 : (t == en) = false := by simp; omega
  have b6 : decide (0 < t - nx) = true := by simp; omega
  have b7 : decide (nx < t) = true := by simp; omega
  go_enter Try.func4, Try.ntmps4
  go_wp2_with fail
  refine (c1 _).mono ?_
  rintro e w1 ⟨rfl, hB1⟩
  have HF : Hid (Below w.heap.size w w1) := Below.on HB.out hB1
  obtain ⟨k0, k1, k2, k3, k4, k5, k6, k7, k8, k9, k10⟩ := (HX.out.later hB1).cells
  have hlt1 := (HX.out.later hB1).lt
  clear HX HB hB1 c1
  go_wp2_with fail
  all_goals (refine (c2 _).mono ?_; rintro e w2 ⟨rfl, hB2⟩; go_wp2_with fail; go_ret; exact ⟨rfl, Below.on (below_more HF.out _) hB2⟩)

set_option maxRecDepth 100000 in
set_option maxHeartbeats 4000000 in
theorem bounds_k3f_walk (nx en : Int) (cl : Bool) (ed un ms rm mo : Int) (na : Bool) (w : World) (hI : Ints nx en ed un ms rm mo) (t : Int) (hl : nx < t) (ht : t < en) (hm : t - nx ≤ ms) (hs : t ≤ ed) (hr : t - nx ≤ rm) (hd : en - nx ≤ 9223372036854775807) (hd2 : ed - nx ≤ 9223372036854775807) (c1 : ∀ W, Calls Try.prog 8 #[.agg #[.int .i64 nx, .int .i64 en, .bool cl, .bool false, .int .i64 ed, .int .i64 un, .int .i64 ms, .int .i64 rm, .int .i64 mo, .bool na, .bool false]] W fun e w' => e = .returned (.tuple #[.agg #[.int .i64 nx, .int .i64 t, .bool false, .bool false], .bool true, .int .i64 0]) ∧ Below W.heap.size W w') : Calls Try.prog 4 #[.agg #[.int .i64 nx, .int .i64 en, .bool cl, .bool false, .int .i64 ed, .int .i64 un, .int .i64 ms, .int .i64 rm, .int .i64 mo, .bool na, .bool false]] w fun e w' => e = .returned (.bool true) ∧ Below w.heap.size w w' := by
  have HX : Hid (BoxW (w.alloc (.cells #[.int .i64 nx, .int .i64 en, .bool cl, .bool false, .int .i64 ed, .int .i64 un, .int .i64 ms, .int .i64 rm, .int .i64 mo, .bool na, .bool false] 23)) w.heap.size (.int .i64 nx) (.int .i64 en) (.bool cl) (.bool false) (.int .i64 ed) (.int .i64 un) (.int .i64 ms) (.int .i64 rm) (.int .i64 mo) (.bool na) (.bool false)) := BoxW.new w (.int .i64 nx) (.int .i64 en) (.bool cl) (.bool false) (.int .i64 ed) (.int .i64 un) (.int .i64 ms) (.int .i64 rm) (.int .i64 mo) (.bool na) (.bool false)
  have HB : Hid (Below w.heap.size w (w.alloc (.cells #[.int .i64 nx, .int .i64 en, .bool cl, .bool false, .int .i64 ed, .int .i64 un, .int .i64 ms, .int .i64 rm, .int .i64 mo, .bool na, .bool false] 23))) := below_more (Below.refl _ _) _

  unfold Ints I64 at hI
  have c2 := heads_any
  have b1 : decide (t - nx < 0) = false := by simp; omega
  have b2 : decide (ms < t - nx) = false := by simp; omega
  have b3 : decide (en < t) = false := by simp; omega
  have b4 : (t - nx == 0) = false := by simp; omega
  have b5 : (t == en) = false := by simp; omega
  have b6 : decide (0 < t - nx) = true := by simp; omega
  have b7 : decide (nx < t) = true := by simp; omega
  go_enter Try.func4, Try.ntmps4
  go_wp2_with fail
  refine (c1 _).mono ?_
  rintro e w1 ⟨rfl, hB1⟩
  have HF : Hid (Below w.heap.size w w1) := Below.on HB.out hB1
  obtain ⟨k0, k1, k2, k3, k4, k5, k6, k7, k8, k9, k10⟩ := (HX.out.later hB1).cells
  have hlt1 := (HX.out.later hB1).lt
  clear HX HB hB1 c1
  go_wp2_with fail
  all_goals (refine (c2 _).mono ?_; rintro e w2 ⟨rfl, hB2⟩; go_wp2_with fail; go_ret; exact ⟨rfl, Below.on (below_more HF.out _) hB2⟩)
end Go.Proofs.Ytmfbcdjedegofaa
