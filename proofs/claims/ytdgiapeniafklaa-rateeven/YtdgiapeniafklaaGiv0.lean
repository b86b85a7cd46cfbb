/- Given, refused at once. -/
import Derived.Test.YtdgiapeniafklaaGivR
import Derived.Test.YtdgiapeniafklaaEach
import Derived.Test.YtdgiapeniafklaaSpd
import Derived.Test.YtdgiapeniafklaaSent
namespace Go.Proofs.Ytdgiapeniafklaa
open Go.ChangeShapes Go.WideShapes Go.ChangeAt Go.RowKit Go.Shelf
set_option linter.unusedVariables false
set_option linter.unusedSimpArgs false
attribute [local go_sem] Oper.semAt_some


theorem zero27 (w : World) : (zeroValue 27).run Try.prog w = .ok (.int .i64 0) w := (zero_of_info (P := Try.prog) (v := .int .i64 0) (n := 1) (by kernel_rfl)).1 w
theorem zero3 (w : World) : (zeroValue 3).run Try.prog w = .ok (.int .i64 0) w := (zero_of_info (P := Try.prog) (v := .int .i64 0) (n := 1) (by kernel_rfl)).1 w
theorem wpI_alloc {ops : Array Oper} {rest : List Oper} {o : Oper} {a : Act} {w : World} {Q : Exit → Act → World → Prop} (hgd : o.guard = none) {ty : TypeId} (ho : o.op = .alloc ty) (hz : ∀ w, (zeroValue ty).run Try.prog w = .ok (.int .i64 0) w)
    (h : ∀ X g, Hid (g = w.heap.size ∧ Below w.heap.size w X ∧ Box X g ty [.int .i64 0]) → wpList Try.prog ops Q rest (a.put o.dst (.pointer (some ⟨g, 0, none⟩))) X) : wpList Try.prog ops Q (o :: rest) a w := by
  refine wpList_plain hgd fun K hK => ?_
  unfold Oper.wp execOp
  simp only [ho, Instr.alloc, newVar, hz, Sem.run_bind, Result.andThen_ok, Value.cells]
  go_simp
  refine hK _ _ (h _ _ ⟨rfl, below_more (Below.refl _ _) _, Box.new w ty [.int .i64 0]⟩)
theorem resCCC {fn : Func} {p p2 p3 : Tmp} (h : fn.results = #[.cell p 23, .cell p2 26, .cell p3 27]) (tmps : Array Value) (w : World) {g g2 g3 : Nat} (hp : tmps.getD p undef = .pointer (some ⟨g, 0, none⟩)) (hp2 : tmps.getD p2 undef = .pointer (some ⟨g2, 0, none⟩)) (hp3 : tmps.getD p3 undef = .pointer (some ⟨g3, 0, none⟩))
    {q : Rt} {s : Sm} {v : Int} (hb : Box w g 23 (rtL q)) (hb2 : Box w g2 26 (smL s)) (hb3 : Box w g3 27 [.int .i64 v]) :
    (results fn tmps).run Try.prog w = .ok (.tuple #[agv (rtL q), agv (smL s), .int .i64 v]) w := by
  obtain ⟨fs, hu, hi⟩ := isS23
  obtain ⟨fs2, hu2, hi2⟩ := isS26
  have hp' : tmps[p]?.getD undef = .pointer (some ⟨g, 0, none⟩) := by simpa using hp
  have hp2' : tmps[p2]?.getD undef = .pointer (some ⟨g2, 0, none⟩) := by simpa using hp2
  have hp3' : tmps[p3]?.getD undef = .pointer (some ⟨g3, 0, none⟩) := by simpa using hp3
  have hc := Box.cell hb3 0 rfl
  have l1 := run_loadVar_row (P := Try.prog) w g 23 23 (rtL q).toArray (0, 0) _ hb hu rfl hi
  have l2 := run_loadVar_row (P := Try.prog) w g2 26 26 (smL s).toArray (0, 0) _ hb2 hu2 rfl hi2
  have l3 : (loadVar 27 ⟨g3, 0, none⟩).run Try.prog w = .ok (.int .i64 v) w := by simp [go_sem, hc]
  simp [results, h, hp', hp2', hp3', asAddr, l1, l2, l3, agv]

set_option maxRecDepth 100000 in
set_option maxHeartbeats 4000000 in
theorem giv_no (q : Rt) (A : Option Addr) (cap : Nat) (ts : List Rc) (now low : Int) (c1 : ∀ W, Calls Try.prog 13 #[agv (rtL q)] W fun e w' => e = .returned (.int .i64 230) ∧ Below W.heap.size W w')  (w : World) : Calls Try.prog 8 #[agv (rtL q), .slice A ts.length cap, .int .i64 now, .int .i64 low] w fun e w' => e = .returned (.tuple #[agv (rtL rtZ), agv (smL smZ), .int .i64 230]) ∧ Below w.heap.size w w' := by
  refine (callsIn_wide (n := 6)).1 ?_
  refine callsIn_of_wp_marks Try.func8 rfl trivial ?_ rfl
  simp only [Try.ntmps8, List.size_toArray, List.length_cons, List.length_nil, Nat.reduceAdd, Nat.reduceSub, Array.replicate_succ, Array.replicate_zero, List.push_toArray, List.append_toArray, List.nil_append, List.cons_append]
  refine wpIn_wide.2 ?_
  go_wp2_with (first | (refine wpS_box rfl rfl rfl ?_))
  intro X1 bp HN
  have HX1 : Hid (Below w.heap.size w X1 ∧ Box X1 bp 23 (rtL q) ∧ w.heap.size ≤ bp ∧ True) := by
    have hb := Below.refl w.heap.size w
    obtain ⟨hg, hb2, bn⟩ := HN.out
    have hz := hb.size
    exact ⟨Below.on hb hb2, bn, by omega, trivial⟩
  clear HN 
  go_wp2_with (first | (refine wpS_alloc rfl rfl zero23 ?_))
  intro X2 br HN
  have HX2 : Hid (Below w.heap.size w X2 ∧ Box X2 bp 23 (rtL q) ∧ Box X2 br 23 (rtL rtZ) ∧ w.heap.size ≤ bp ∧ bp < br ∧ True) := by
    obtain ⟨hb, b0, l0, _⟩ := HX1.out
    obtain ⟨hg, hb2, bn⟩ := HN.out
    have z0 := b0.lt
    exact ⟨Below.on hb hb2, b0.later hb2, bn, l0, by omega, trivial⟩
  clear HN HX1
  go_wp2_with (first | (refine wpS_alloc rfl rfl zero26 ?_))
  intro X3 bs HN
  have HX3 : Hid (Below w.heap.size w X3 ∧ Box X3 bp 23 (rtL q) ∧ Box X3 br 23 (rtL rtZ) ∧ Box X3 bs 26 (smL smZ) ∧ w.heap.size ≤ bp ∧ bp < br ∧ br < bs ∧ True) := by
    obtain ⟨hb, b0, b1, l0, l1, _⟩ := HX2.out
    obtain ⟨hg, hb2, bn⟩ := HN.out
    have z0 := b0.lt
    have z1 := b1.lt
    exact ⟨Below.on hb hb2, b0.later hb2, b1.later hb2, bn, l0, l1, by omega, trivial⟩
  clear HN HX2
  go_wp2_with (first | (refine wpI_alloc rfl rfl zero27 ?_))
  intro X4 be HN
  have HX4 : Hid (Below w.heap.size w X4 ∧ Box X4 bp 23 (rtL q) ∧ Box X4 br 23 (rtL rtZ) ∧ Box X4 bs 26 (smL smZ) ∧ Box X4 be 27 ([.int .i64 0]) ∧ w.heap.size ≤ bp ∧ bp < br ∧ br < bs ∧ bs < be ∧ True) := by
    obtain ⟨hb, b0, b1, b2, l0, l1, l2, _⟩ := HX3.out
    obtain ⟨hg, hb2, bn⟩ := HN.out
    have z0 := b0.lt
    have z1 := b1.lt
    have z2 := b2.lt
    exact ⟨Below.on hb hb2, b0.later hb2, b1.later hb2, b2.later hb2, bn, l0, l1, l2, by omega, trivial⟩
  clear HN HX3
  go_wp2_with (first | (refine wpS_load rfl rfl rfl (HX4.out.2.1) isS23 ?_) | fail)
  refine (c1 _).mono ?_
  rintro e w5 ⟨rfl, hB⟩
  have HX5 : Hid (Below w.heap.size w w5 ∧ Box w5 bp 23 (rtL q) ∧ Box w5 br 23 (rtL rtZ) ∧ Box w5 bs 26 (smL smZ) ∧ Box w5 be 27 ([.int .i64 0]) ∧ w.heap.size ≤ bp ∧ bp < br ∧ br < bs ∧ bs < be ∧ True) := by
    obtain ⟨hb, b0, b1, b2, b3, l0, l1, l2, l3, _⟩ := HX4.out
    exact ⟨Below.on hb hB, b0.later hB, b1.later hB, b2.later hB, b3.later hB, l0, l1, l2, l3, trivial⟩
  clear hB HX4
  go_wp2_with (first | (refine wpS_buildL (ps := []) rfl rfl built23 ?_) | (refine wpS_buildL (ps := []) rfl rfl built26 ?_) | (refine wpS_store rfl rfl rfl rfl rfl (HX5.out.2.2.1) rfl isS23 (rtL_one _) ?_))
  intro X6 HN
  have HX6 : Hid (Below w.heap.size w X6 ∧ Box X6 bp 23 (rtL q) ∧ Box X6 br 23 (rtL rtZ) ∧ Box X6 bs 26 (smL smZ) ∧ Box X6 be 27 ([.int .i64 0]) ∧ w.heap.size ≤ bp ∧ bp < br ∧ br < bs ∧ bs < be ∧ True) := by
    obtain ⟨hb, b0, b1, b2, b3, l0, l1, l2, l3, _⟩ := HX5.out
    obtain ⟨st, bn⟩ := HN.out
    exact ⟨st.below _ _ (by omega) hb, b0.sto st (by omega), bn, b2.sto st (by omega), b3.sto st (by omega), l0, l1, l2, l3, trivial⟩
  clear HN HX5
  go_wp2_with (first | (refine wpS_store rfl rfl rfl rfl rfl (HX6.out.2.2.2.1) rfl isS26 (smL_one _) ?_))
  intro X7 HN
  have HX7 : Hid (Below w.heap.size w X7 ∧ Box X7 bp 23 (rtL q) ∧ Box X7 br 23 (rtL rtZ) ∧ Box X7 bs 26 (smL smZ) ∧ Box X7 be 27 ([.int .i64 0]) ∧ w.heap.size ≤ bp ∧ bp < br ∧ br < bs ∧ bs < be ∧ True) := by
    obtain ⟨hb, b0, b1, b2, b3, l0, l1, l2, l3, _⟩ := HX6.out
    obtain ⟨st, bn⟩ := HN.out
    exact ⟨st.below _ _ (by omega) hb, b0.sto st (by omega), b1.sto st (by omega), bn, b3.sto st (by omega), l0, l1, l2, l3, trivial⟩
  clear HN HX6
  have k0 := Box.cell (HX7.out.2.2.2.2.1) 0 rfl
  have fz := fun i => Box.frozen (HX7.out.2.2.2.2.1) i
  go_wp2_with fail
  obtain ⟨X8, hX⟩ : ∃ X, X7.setCell ⟨be, 0, none⟩ (.int .i64 230) = X := ⟨_, rfl⟩
  try rw [hX]
  have HX8 : Hid (Below w.heap.size w X8 ∧ Box X8 bp 23 (rtL q) ∧ Box X8 br 23 (rtL rtZ) ∧ Box X8 bs 26 (smL smZ) ∧ Box X8 be 27 ([.int .i64 230]) ∧ w.heap.size ≤ bp ∧ bp < br ∧ br < bs ∧ bs < be ∧ True) := by
    obtain ⟨hb, b0, b1, b2, b3, l0, l1, l2, l3, _⟩ := HX7.out
    subst hX
    exact ⟨below_set hb _ _ _ (by omega), b0.aside _ _ _ (by omega), b1.aside _ _ _ (by omega), b2.aside _ _ _ (by omega), b3.set 0 _, l0, l1, l2, l3, trivial⟩
  clear hX HX7
  exact ⟨_, resCCC rfl _ _ rfl rfl rfl (HX8.out.2.2.1) (HX8.out.2.2.2.1) (HX8.out.2.2.2.2.1), rfl, HX8.out.1⟩

set_option maxRecDepth 100000 in
set_option maxHeartbeats 4000000 in
theorem giv_now (q : Rt) (A : Option Addr) (cap : Nat) (ts : List Rc) (now low : Int) (c1 : ∀ W, Calls Try.prog 13 #[agv (rtL q)] W fun e w' => e = .returned (.int .i64 0) ∧ Below W.heap.size W w') (c2 : ∀ W, Calls Try.prog 17 #[.int .i64 now] W fun e w' => e = .returned (.bool false) ∧ w' = W)  (w : World) : Calls Try.prog 8 #[agv (rtL q), .slice A ts.length cap, .int .i64 now, .int .i64 low] w fun e w' => e = .returned (.tuple #[agv (rtL rtZ), agv (smL smZ), .int .i64 2]) ∧ Below w.heap.size w w' := by
  refine (callsIn_wide (n := 6)).1 ?_
  refine callsIn_of_wp_marks Try.func8 rfl trivial ?_ rfl
  simp only [Try.ntmps8, List.size_toArray, List.length_cons, List.length_nil, Nat.reduceAdd, Nat.reduceSub, Array.replicate_succ, Array.replicate_zero, List.push_toArray, List.append_toArray, List.nil_append, List.cons_append]
  refine wpIn_wide.2 ?_
  go_wp2_with (first | (refine wpS_box rfl rfl rfl ?_))
  intro X1 bp HN
  have HX1 : Hid (Below w.heap.size w X1 ∧ Box X1 bp 23 (rtL q) ∧ w.heap.size ≤ bp ∧ True) := by
    have hb := Below.refl w.heap.size w
    obtain ⟨hg, hb2, bn⟩ := HN.out
    have hz := hb.size
    exact ⟨Below.on hb hb2, bn, by omega, trivial⟩
  clear HN 
  go_wp2_with (first | (refine wpS_alloc rfl rfl zero23 ?_))
  intro X2 br HN
  have HX2 : Hid (Below w.heap.size w X2 ∧ Box X2 bp 23 (rtL q) ∧ Box X2 br 23 (rtL rtZ) ∧ w.heap.size ≤ bp ∧ bp < br ∧ True) := by
    obtain ⟨hb, b0, l0, _⟩ := HX1.out
    obtain ⟨hg, hb2, bn⟩ := HN.out
    have z0 := b0.lt
    exact ⟨Below.on hb hb2, b0.later hb2, bn, l0, by omega, trivial⟩
  clear HN HX1
  go_wp2_with (first | (refine wpS_alloc rfl rfl zero26 ?_))
  intro X3 bs HN
  have HX3 : Hid (Below w.heap.size w X3 ∧ Box X3 bp 23 (rtL q) ∧ Box X3 br 23 (rtL rtZ) ∧ Box X3 bs 26 (smL smZ) ∧ w.heap.size ≤ bp ∧ bp < br ∧ br < bs ∧ True) := by
    obtain ⟨hb, b0, b1, l0, l1, _⟩ := HX2.out
    obtain ⟨hg, hb2, bn⟩ := HN.out
    have z0 := b0.lt
    have z1 := b1.lt
    exact ⟨Below.on hb hb2, b0.later hb2, b1.later hb2, bn, l0, l1, by omega, trivial⟩
  clear HN HX2
  go_wp2_with (first | (refine wpI_alloc rfl rfl zero27 ?_))
  intro X4 be HN
  have HX4 : Hid (Below w.heap.size w X4 ∧ Box X4 bp 23 (rtL q) ∧ Box X4 br 23 (rtL rtZ) ∧ Box X4 bs 26 (smL smZ) ∧ Box X4 be 27 ([.int .i64 0]) ∧ w.heap.size ≤ bp ∧ bp < br ∧ br < bs ∧ bs < be ∧ True) := by
    obtain ⟨hb, b0, b1, b2, l0, l1, l2, _⟩ := HX3.out
    obtain ⟨hg, hb2, bn⟩ := HN.out
    have z0 := b0.lt
    have z1 := b1.lt
    have z2 := b2.lt
    exact ⟨Below.on hb hb2, b0.later hb2, b1.later hb2, b2.later hb2, bn, l0, l1, l2, by omega, trivial⟩
  clear HN HX3
  go_wp2_with (first | (refine wpS_load rfl rfl rfl (HX4.out.2.1) isS23 ?_) | fail)
  refine (c1 _).mono ?_
  rintro e w5 ⟨rfl, hB⟩
  have HX5 : Hid (Below w.heap.size w w5 ∧ Box w5 bp 23 (rtL q) ∧ Box w5 br 23 (rtL rtZ) ∧ Box w5 bs 26 (smL smZ) ∧ Box w5 be 27 ([.int .i64 0]) ∧ w.heap.size ≤ bp ∧ bp < br ∧ br < bs ∧ bs < be ∧ True) := by
    obtain ⟨hb, b0, b1, b2, b3, l0, l1, l2, l3, _⟩ := HX4.out
    exact ⟨Below.on hb hB, b0.later hB, b1.later hB, b2.later hB, b3.later hB, l0, l1, l2, l3, trivial⟩
  clear hB HX4
  go_wp2_with fail
  refine (c2 _).mono ?_
  rintro e w' ⟨rfl, hq⟩
  obtain rfl := hq.symm
  clear hq
  go_wp2_with (first | (refine wpS_buildL (ps := []) rfl rfl built23 ?_) | (refine wpS_buildL (ps := []) rfl rfl built26 ?_) | (refine wpS_store rfl rfl rfl rfl rfl (HX5.out.2.2.1) rfl isS23 (rtL_one _) ?_))
  intro X6 HN
  have HX6 : Hid (Below w.heap.size w X6 ∧ Box X6 bp 23 (rtL q) ∧ Box X6 br 23 (rtL rtZ) ∧ Box X6 bs 26 (smL smZ) ∧ Box X6 be 27 ([.int .i64 0]) ∧ w.heap.size ≤ bp ∧ bp < br ∧ br < bs ∧ bs < be ∧ True) := by
    obtain ⟨hb, b0, b1, b2, b3, l0, l1, l2, l3, _⟩ := HX5.out
    obtain ⟨st, bn⟩ := HN.out
    exact ⟨st.below _ _ (by omega) hb, b0.sto st (by omega), bn, b2.sto st (by omega), b3.sto st (by omega), l0, l1, l2, l3, trivial⟩
  clear HN HX5
  go_wp2_with (first | (refine wpS_store rfl rfl rfl rfl rfl (HX6.out.2.2.2.1) rfl isS26 (smL_one _) ?_))
  intro X7 HN
  have HX7 : Hid (Below w.heap.size w X7 ∧ Box X7 bp 23 (rtL q) ∧ Box X7 br 23 (rtL rtZ) ∧ Box X7 bs 26 (smL smZ) ∧ Box X7 be 27 ([.int .i64 0]) ∧ w.heap.size ≤ bp ∧ bp < br ∧ br < bs ∧ bs < be ∧ True) := by
    obtain ⟨hb, b0, b1, b2, b3, l0, l1, l2, l3, _⟩ := HX6.out
    obtain ⟨st, bn⟩ := HN.out
    exact ⟨st.below _ _ (by omega) hb, b0.sto st (by omega), b1.sto st (by omega), bn, b3.sto st (by omega), l0, l1, l2, l3, trivial⟩
  clear HN HX6
  have k0 := Box.cell (HX7.out.2.2.2.2.1) 0 rfl
  have fz := fun i => Box.frozen (HX7.out.2.2.2.2.1) i
  go_wp2_with fail
  obtain ⟨X8, hX⟩ : ∃ X, X7.setCell ⟨be, 0, none⟩ (.int .i64 2) = X := ⟨_, rfl⟩
  try rw [hX]
  have HX8 : Hid (Below w.heap.size w X8 ∧ Box X8 bp 23 (rtL q) ∧ Box X8 br 23 (rtL rtZ) ∧ Box X8 bs 26 (smL smZ) ∧ Box X8 be 27 ([.int .i64 2]) ∧ w.heap.size ≤ bp ∧ bp < br ∧ br < bs ∧ bs < be ∧ True) := by
    obtain ⟨hb, b0, b1, b2, b3, l0, l1, l2, l3, _⟩ := HX7.out
    subst hX
    exact ⟨below_set hb _ _ _ (by omega), b0.aside _ _ _ (by omega), b1.aside _ _ _ (by omega), b2.aside _ _ _ (by omega), b3.set 0 _, l0, l1, l2, l3, trivial⟩
  clear hX HX7
  exact ⟨_, resCCC rfl _ _ rfl rfl rfl (HX8.out.2.2.1) (HX8.out.2.2.2.1) (HX8.out.2.2.2.2.1), rfl, HX8.out.1⟩

set_option maxRecDepth 100000 in
set_option maxHeartbeats 4000000 in
theorem giv_low (q : Rt) (A : Option Addr) (cap : Nat) (ts : List Rc) (now low : Int) (c1 : ∀ W, Calls Try.prog 13 #[agv (rtL q)] W fun e w' => e = .returned (.int .i64 0) ∧ Below W.heap.size W w') (c2 : ∀ W, Calls Try.prog 17 #[.int .i64 now] W fun e w' => e = .returned (.bool true) ∧ w' = W) (c3 : ∀ W, Calls Try.prog 17 #[.int .i64 low] W fun e w' => e = .returned (.bool false) ∧ w' = W)  (w : World) : Calls Try.prog 8 #[agv (rtL q), .slice A ts.length cap, .int .i64 now, .int .i64 low] w fun e w' => e = .returned (.tuple #[agv (rtL rtZ), agv (smL smZ), .int .i64 2]) ∧ Below w.heap.size w w' := by
  refine (callsIn_wide (n := 6)).1 ?_
  refine callsIn_of_wp_marks Try.func8 rfl trivial ?_ rfl
  simp only [Try.ntmps8, List.size_toArray, List.length_cons, List.length_nil, Nat.reduceAdd, Nat.reduceSub, Array.replicate_succ, Array.replicate_zero, List.push_toArray, List.append_toArray, List.nil_append, List.cons_append]
  refine wpIn_wide.2 ?_
  go_wp2_with (first | (refine wpS_box rfl rfl rfl ?_))
  intro X1 bp HN
  have HX1 : Hid (Below w.heap.size w X1 ∧ Box X1 bp 23 (rtL q) ∧ w.heap.size ≤ bp ∧ True) := by
    have hb := Below.refl w.heap.size w
    obtain ⟨hg, hb2, bn⟩ := HN.out
    have hz := hb.size
    exact ⟨Below.on hb hb2, bn, by omega, trivial⟩
  clear HN 
  go_wp2_with (first | (refine wpS_alloc rfl rfl zero23 ?_))
  intro X2 br HN
  have HX2 : Hid (Below w.heap.size w X2 ∧ Box X2 bp 23 (rtL q) ∧ Box X2 br 23 (rtL rtZ) ∧ w.heap.size ≤ bp ∧ bp < br ∧ True) := by
    obtain ⟨hb, b0, l0, _⟩ := HX1.out
    obtain ⟨hg, hb2, bn⟩ := HN.out
    have z0 := b0.lt
    exact ⟨Below.on hb hb2, b0.later hb2, bn, l0, by omega, trivial⟩
  clear HN HX1
  go_wp2_with (first | (refine wpS_alloc rfl rfl zero26 ?_))
  intro X3 bs HN
  have HX3 : Hid (Below w.heap.size w X3 ∧ Box X3 bp 23 (rtL q) ∧ Box X3 br 23 (rtL rtZ) ∧ Box X3 bs 26 (smL smZ) ∧ w.heap.size ≤ bp ∧ bp < br ∧ br < bs ∧ True) := by
    obtain ⟨hb, b0, b1, l0, l1, _⟩ := HX2.out
    obtain ⟨hg, hb2, bn⟩ := HN.out
    have z0 := b0.lt
    have z1 := b1.lt
    exact ⟨Below.on hb hb2, b0.later hb2, b1.later hb2, bn, l0, l1, by omega, trivial⟩
  clear HN HX2
  go_wp2_with (first | (refine wpI_alloc rfl rfl zero27 ?_))
  intro X4 be HN
  have HX4 : Hid (Below w.heap.size w X4 ∧ Box X4 bp 23 (rtL q) ∧ Box X4 br 23 (rtL rtZ) ∧ Box X4 bs 26 (smL smZ) ∧ Box X4 be 27 ([.int .i64 0]) ∧ w.heap.size ≤ bp ∧ bp < br ∧ br < bs ∧ bs < be ∧ True) := by
    obtain ⟨hb, b0, b1, b2, l0, l1, l2, _⟩ := HX3.out
    obtain ⟨hg, hb2, bn⟩ := HN.out
    have z0 := b0.lt
    have z1 := b1.lt
    have z2 := b2.lt
    exact ⟨Below.on hb hb2, b0.later hb2, b1.later hb2, b2.later hb2, bn, l0, l1, l2, by omega, trivial⟩
  clear HN HX3
  go_wp2_with (first | (refine wpS_load rfl rfl rfl (HX4.out.2.1) isS23 ?_) | fail)
  refine (c1 _).mono ?_
  rintro e w5 ⟨rfl, hB⟩
  have HX5 : Hid (Below w.heap.size w w5 ∧ Box w5 bp 23 (rtL q) ∧ Box w5 br 23 (rtL rtZ) ∧ Box w5 bs 26 (smL smZ) ∧ Box w5 be 27 ([.int .i64 0]) ∧ w.heap.size ≤ bp ∧ bp < br ∧ br < bs ∧ bs < be ∧ True) := by
    obtain ⟨hb, b0, b1, b2, b3, l0, l1, l2, l3, _⟩ := HX4.out
    exact ⟨Below.on hb hB, b0.later hB, b1.later hB, b2.later hB, b3.later hB, l0, l1, l2, l3, trivial⟩
  clear hB HX4
  go_wp2_with fail
  refine (c2 _).mono ?_
  rintro e w' ⟨rfl, hq⟩
  obtain rfl := hq.symm
  clear hq
  go_wp2_with fail
  refine (c3 _).mono ?_
  rintro e w' ⟨rfl, hq⟩
  obtain rfl := hq.symm
  clear hq
  go_wp2_with (first | (refine wpS_buildL (ps := []) rfl rfl built23 ?_) | (refine wpS_buildL (ps := []) rfl rfl built26 ?_) | (refine wpS_store rfl rfl rfl rfl rfl (HX5.out.2.2.1) rfl isS23 (rtL_one _) ?_))
  intro X6 HN
  have HX6 : Hid (Below w.heap.size w X6 ∧ Box X6 bp 23 (rtL q) ∧ Box X6 br 23 (rtL rtZ) ∧ Box X6 bs 26 (smL smZ) ∧ Box X6 be 27 ([.int .i64 0]) ∧ w.heap.size ≤ bp ∧ bp < br ∧ br < bs ∧ bs < be ∧ True) := by
    obtain ⟨hb, b0, b1, b2, b3, l0, l1, l2, l3, _⟩ := HX5.out
    obtain ⟨st, bn⟩ := HN.out
    exact ⟨st.below _ _ (by omega) hb, b0.sto st (by omega), bn, b2.sto st (by omega), b3.sto st (by omega), l0, l1, l2, l3, trivial⟩
  clear HN HX5
  go_wp2_with (first | (refine wpS_store rfl rfl rfl rfl rfl (HX6.out.2.2.2.1) rfl isS26 (smL_one _) ?_))
  intro X7 HN
  have HX7 : Hid (Below w.heap.size w X7 ∧ Box X7 bp 23 (rtL q) ∧ Box X7 br 23 (rtL rtZ) ∧ Box X7 bs 26 (smL smZ) ∧ Box X7 be 27 ([.int .i64 0]) ∧ w.heap.size ≤ bp ∧ bp < br ∧ br < bs ∧ bs < be ∧ True) := by
    obtain ⟨hb, b0, b1, b2, b3, l0, l1, l2, l3, _⟩ := HX6.out
    obtain ⟨st, bn⟩ := HN.out
    exact ⟨st.below _ _ (by omega) hb, b0.sto st (by omega), b1.sto st (by omega), bn, b3.sto st (by omega), l0, l1, l2, l3, trivial⟩
  clear HN HX6
  have k0 := Box.cell (HX7.out.2.2.2.2.1) 0 rfl
  have fz := fun i => Box.frozen (HX7.out.2.2.2.2.1) i
  go_wp2_with fail
  obtain ⟨X8, hX⟩ : ∃ X, X7.setCell ⟨be, 0, none⟩ (.int .i64 2) = X := ⟨_, rfl⟩
  try rw [hX]
  have HX8 : Hid (Below w.heap.size w X8 ∧ Box X8 bp 23 (rtL q) ∧ Box X8 br 23 (rtL rtZ) ∧ Box X8 bs 26 (smL smZ) ∧ Box X8 be 27 ([.int .i64 2]) ∧ w.heap.size ≤ bp ∧ bp < br ∧ br < bs ∧ bs < be ∧ True) := by
    obtain ⟨hb, b0, b1, b2, b3, l0, l1, l2, l3, _⟩ := HX7.out
    subst hX
    exact ⟨below_set hb _ _ _ (by omega), b0.aside _ _ _ (by omega), b1.aside _ _ _ (by omega), b2.aside _ _ _ (by omega), b3.set 0 _, l0, l1, l2, l3, trivial⟩
  clear hX HX7
  exact ⟨_, resCCC rfl _ _ rfl rfl rfl (HX8.out.2.2.1) (HX8.out.2.2.2.1) (HX8.out.2.2.2.2.1), rfl, HX8.out.1⟩
end Go.Proofs.Ytdgiapeniafklaa
