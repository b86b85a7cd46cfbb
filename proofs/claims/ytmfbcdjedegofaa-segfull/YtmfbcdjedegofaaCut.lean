/- The contracts of cut, worth and the document's goes. -/
import Derived.Test.YtmfbcdjedegofaaBase
namespace Go.Proofs.Ytmfbcdjedegofaa
open Go.ChangeShapes Go.WideShapes Go.ChangeAt Go.RowKit
set_option linter.unusedVariables false


set_option maxRecDepth 100000 in
set_option maxHeartbeats 4000000 in
theorem cut_any (nx en : Int) (cl fi : Bool) (ed un ms rm mo : Int) (na fo : Bool) (n : Int) (w : World) (hI : Ints nx en ed un ms rm mo) (hs : I64 (nx + n)) :
    Calls Try.prog 16 #[.agg #[.int .i64 nx, .int .i64 en, .bool cl, .bool fi, .int .i64 ed, .int .i64 un, .int .i64 ms, .int .i64 rm, .int .i64 mo, .bool na, .bool fo], .int .i64 n] w fun e w' => e = .returned (.agg #[.int .i64 nx, .int .i64 (nx + n), .bool false, .bool (decide (nx + n = en))]) ∧ Below w.heap.size w w' := by
  unfold Ints I64 at hI
  unfold I64 at hs
  go_enter Try.func16, Try.ntmps16
  go_wp2
  refine bodyPost_ret (results_box rfl _ _ (w.heap.size + 1) _ _ _ _ rfl (BoxR.new1 w _ _ _ _ _)) rfl ?_
  exact ⟨rfl, below_more (below_more (Below.refl _ _) _) _⟩
set_option maxRecDepth 100000 in
set_option maxHeartbeats 4000000 in
theorem worth_any (nx en : Int) (cl fi : Bool) (ed un ms rm mo : Int) (na fo : Bool) (m : Int) (w : World) (hI : Ints nx en ed un ms rm mo) (hs : 0 ≤ en - nx ∧ en - nx ≤ 1125899906842624) (hm : 0 ≤ m ∧ m ≤ 1125899906842624) (ho : 0 ≤ mo ∧ mo ≤ 1073741824) :
    Calls Try.prog 19 #[.agg #[.int .i64 nx, .int .i64 en, .bool cl, .bool fi, .int .i64 ed, .int .i64 un, .int .i64 ms, .int .i64 rm, .int .i64 mo, .bool na, .bool fo], .int .i64 m] w fun e w' => e = .returned (.bool (worthB nx en cl un ms mo na m)) ∧ Below w.heap.size w w' := by
  unfold Ints I64 at hI
  have HB : Hid (Below w.heap.size w (w.alloc (.cells #[.int .i64 nx, .int .i64 en, .bool cl, .bool fi, .int .i64 ed, .int .i64 un, .int .i64 ms, .int .i64 rm, .int .i64 mo, .bool na, .bool fo] 23))) := below_more (Below.refl _ _) _
  have e1 : m = ms ∨ ¬ m = ms := Classical.em _
  have e2 : m = en - nx ∨ ¬ m = en - nx := Classical.em _
  cases cl <;> cases na <;> rcases e1 with e1 | e1 <;> rcases e2 with e2 | e2
  all_goals (go_enter Try.func19, Try.ntmps19; go_wp2)
  all_goals go_ret
  all_goals (refine ⟨ret_bool ?_, below_more (Below.refl _ _) _⟩; rw [Bool.eq_iff_iff]; simp [worthB]; try omega)
set_option maxRecDepth 100000 in
set_option maxHeartbeats 4000000 in
theorem goes_any (nx en : Int) (cl fi : Bool) (ed un ms rm mo : Int) (na fo : Bool) (m d : Int) (w : World) (hI : Ints nx en ed un ms rm mo) (hm : 0 ≤ m ∧ m ≤ 1125899906842624) (hd : d = en - nx) :
    Calls Try.prog 18 #[.agg #[.int .i64 nx, .int .i64 en, .bool cl, .bool fi, .int .i64 ed, .int .i64 un, .int .i64 ms, .int .i64 rm, .int .i64 mo, .bool na, .bool fo], .int .i64 m, .int .i64 d] w fun e w' => e = .returned (.bool (worthB nx en cl un ms mo na m)) ∧ Below w.heap.size w w' := by
  unfold Ints I64 at hI
  have HB : Hid (Below w.heap.size w (w.alloc (.cells #[.int .i64 nx, .int .i64 en, .bool cl, .bool fi, .int .i64 ed, .int .i64 un, .int .i64 ms, .int .i64 rm, .int .i64 mo, .bool na, .bool fo] 23))) := below_more (Below.refl _ _) _
  have e1 : m = ms ∨ ¬ m = ms := Classical.em _
  have e2 : m = en - nx ∨ ¬ m = en - nx := Classical.em _
  cases cl <;> cases na <;> rcases e1 with e1 | e1 <;> rcases e2 with e2 | e2
  all_goals (go_enter Try.func18, Try.ntmps18; go_wp2)
  all_goals go_ret
  all_goals (refine ⟨ret_bool ?_, below_more (Below.refl _ _) _⟩; rw [Bool.eq_iff_iff]; simp [worthB]; try omega)
end Go.Proofs.Ytmfbcdjedegofaa
