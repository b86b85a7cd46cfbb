/- The document's Given, refused at once. -/
import Derived.Test.YtdgiapeniafklaaRGivR
import Derived.Test.YtdgiapeniafklaaSent
namespace Go.Proofs.Ytdgiapeniafklaa
open Go.ChangeShapes Go.WideShapes Go.ChangeAt Go.RowKit Go.Shelf
set_option linter.unusedVariables false
set_option linter.unusedSimpArgs false
attribute [local go_sem] Oper.semAt_some


set_option maxRecDepth 100000 in
set_option maxHeartbeats 4000000 in
theorem rgiv_no (q : Rt) (A : Option Addr) (cap : Nat) (ts : List Rc) (now low : Int) (c1 : ∀ W, Calls Try.prog 14 #[agv (rtL q)] W fun e w' => e = .returned (.int .i64 230) ∧ Below W.heap.size W w')  (w : World) : Calls Try.prog 12 #[agv (rtL q), .slice A ts.length cap, .int .i64 now, .int .i64 low] w fun e w' => e = .returned (.tuple #[agv (rtL rtZ), agv (smL smZ), .int .i64 230]) ∧ Below w.heap.size w w' := by
  go_enter Try.func12, Try.ntmps12
  go_wp2_with (first | (refine wpS_box rfl rfl rfl ?_))
  intro X1 bp HN
  have HX1 : Hid (Below w.heap.size w X1 ∧ Box X1 bp 23 (rtL q) ∧ w.heap.size ≤ bp ∧ True) := by
    have hb := Below.refl w.heap.size w
    obtain ⟨hg, hb2, bn⟩ := HN.out
    have hz := hb.size
    exact ⟨Below.on hb hb2, bn, by omega, trivial⟩
  clear HN 
  go_wp2_with (first | (refine wpS_alloc rfl rfl zero23 ?_))
  intro X2 br HN
  have HX2 : Hid (Below w.heap.size w X2 ∧ Box X2 bp 23 (rtL q) ∧ Box X2 br 23 (rtL rtZ) ∧ w.heap.size ≤ bp ∧ bp < br ∧ True) := by
    obtain ⟨hb, b0, l0, _⟩ := HX1.out
    obtain ⟨hg, hb2, bn⟩ := HN.out
    have z0 := b0.lt
    exact ⟨Below.on hb hb2, b0.later hb2, bn, l0, by omega, trivial⟩
  clear HN HX1
  go_wp2_with (first | (refine wpS_alloc rfl rfl zero26 ?_))
  intro X3 bs HN
  have HX3 : Hid (Below w.heap.size w X3 ∧ Box X3 bp 23 (rtL q) ∧ Box X3 br 23 (rtL rtZ) ∧ Box X3 bs 26 (smL smZ) ∧ w.heap.size ≤ bp ∧ bp < br ∧ br < bs ∧ True) := by
    obtain ⟨hb, b0, b1, l0, l1, _⟩ := HX2.out
    obtain ⟨hg, hb2, bn⟩ := HN.out
    have z0 := b0.lt
    have z1 := b1.lt
    exact ⟨Below.on hb hb2, b0.later hb2, b1.later hb2, bn, l0, l1, by omega, trivial⟩
  clear HN HX2
  go_wp2_with (first | (refine wpS_load rfl rfl rfl (HX3.out.2.1) isS23 ?_) | fail)
  refine (c1 _).mono ?_
  rintro e w4 ⟨rfl, hB⟩
  have HX4 : Hid (Below w.heap.size w w4 ∧ Box w4 bp 23 (rtL q) ∧ Box w4 br 23 (rtL rtZ) ∧ Box w4 bs 26 (smL smZ) ∧ w.heap.size ≤ bp ∧ bp < br ∧ br < bs ∧ True) := by
    obtain ⟨hb, b0, b1, b2, l0, l1, l2, _⟩ := HX3.out
    exact ⟨Below.on hb hB, b0.later hB, b1.later hB, b2.later hB, l0, l1, l2, trivial⟩
  clear hB HX3
  go_wp2_with (first | (refine wpS_buildL (ps := []) rfl rfl built23 ?_) | (refine wpS_buildL (ps := []) rfl rfl built26 ?_) | (refine wpS_store rfl rfl rfl rfl rfl (HX4.out.2.2.1) rfl isS23 (rtL_one _) ?_))
  intro X5 HN
  have HX5 : Hid (Below w.heap.size w X5 ∧ Box X5 bp 23 (rtL q) ∧ Box X5 br 23 (rtL rtZ) ∧ Box X5 bs 26 (smL smZ) ∧ w.heap.size ≤ bp ∧ bp < br ∧ br < bs ∧ True) := by
    obtain ⟨hb, b0, b1, b2, l0, l1, l2, _⟩ := HX4.out
    obtain ⟨st, bn⟩ := HN.out
    exact ⟨st.below _ _ (by omega) hb, b0.sto st (by omega), bn, b2.sto st (by omega), l0, l1, l2, trivial⟩
  clear HN HX4
  go_wp2_with (first | (refine wpS_store rfl rfl rfl rfl rfl (HX5.out.2.2.2.1) rfl isS26 (smL_one _) ?_))
  intro X6 HN
  have HX6 : Hid (Below w.heap.size w X6 ∧ Box X6 bp 23 (rtL q) ∧ Box X6 br 23 (rtL rtZ) ∧ Box X6 bs 26 (smL smZ) ∧ w.heap.size ≤ bp ∧ bp < br ∧ br < bs ∧ True) := by
    obtain ⟨hb, b0, b1, b2, l0, l1, l2, _⟩ := HX5.out
    obtain ⟨st, bn⟩ := HN.out
    exact ⟨st.below _ _ (by omega) hb, b0.sto st (by omega), b1.sto st (by omega), bn, l0, l1, l2, trivial⟩
  clear HN HX5
  go_wp2_with fail
  refine bodyPost_ret (resSS rfl _ _ rfl (HX6.out.2.2.1) isS23 rfl (HX6.out.2.2.2.1) isS26) rfl ?_
  exact ⟨rfl, HX6.out.1⟩

set_option maxRecDepth 100000 in
set_option maxHeartbeats 4000000 in
theorem rgiv_now (q : Rt) (A : Option Addr) (cap : Nat) (ts : List Rc) (now low : Int) (c1 : ∀ W, Calls Try.prog 14 #[agv (rtL q)] W fun e w' => e = .returned (.int .i64 0) ∧ Below W.heap.size W w') (c2 : ∀ W, Calls Try.prog 23 #[.int .i64 now] W fun e w' => e = .returned (.bool false) ∧ w' = W)  (w : World) : Calls Try.prog 12 #[agv (rtL q), .slice A ts.length cap, .int .i64 now, .int .i64 low] w fun e w' => e = .returned (.tuple #[agv (rtL rtZ), agv (smL smZ), .int .i64 2]) ∧ Below w.heap.size w w' := by
  go_enter Try.func12, Try.ntmps12
  go_wp2_with (first | (refine wpS_box rfl rfl rfl ?_))
  intro X1 bp HN
  have HX1 : Hid (Below w.heap.size w X1 ∧ Box X1 bp 23 (rtL q) ∧ w.heap.size ≤ bp ∧ True) := by
    have hb := Below.refl w.heap.size w
    obtain ⟨hg, hb2, bn⟩ := HN.out
    have hz := hb.size
    exact ⟨Below.on hb hb2, bn, by omega, trivial⟩
  clear HN 
  go_wp2_with (first | (refine wpS_alloc rfl rfl zero23 ?_))
  intro X2 br HN
  have HX2 : Hid (Below w.heap.size w X2 ∧ Box X2 bp 23 (rtL q) ∧ Box X2 br 23 (rtL rtZ) ∧ w.heap.size ≤ bp ∧ bp < br ∧ True) := by
    obtain ⟨hb, b0, l0, _⟩ := HX1.out
    obtain ⟨hg, hb2, bn⟩ := HN.out
    have z0 := b0.lt
    exact ⟨Below.on hb hb2, b0.later hb2, bn, l0, by omega, trivial⟩
  clear HN HX1
  go_wp2_with (first | (refine wpS_alloc rfl rfl zero26 ?_))
  intro X3 bs HN
  have HX3 : Hid (Below w.heap.size w X3 ∧ Box X3 bp 23 (rtL q) ∧ Box X3 br 23 (rtL rtZ) ∧ Box X3 bs 26 (smL smZ) ∧ w.heap.size ≤ bp ∧ bp < br ∧ br < bs ∧ True) := by
    obtain ⟨hb, b0, b1, l0, l1, _⟩ := HX2.out
    obtain ⟨hg, hb2, bn⟩ := HN.out
    have z0 := b0.lt
    have z1 := b1.lt
    exact ⟨Below.on hb hb2, b0.later hb2, b1.later hb2, bn, l0, l1, by omega, trivial⟩
  clear HN HX2
  go_wp2_with (first | (refine wpS_load rfl rfl rfl (HX3.out.2.1) isS23 ?_) | fail)
  refine (c1 _).mono ?_
  rintro e w4 ⟨rfl, hB⟩
  have HX4 : Hid (Below w.heap.size w w4 ∧ Box w4 bp 23 (rtL q) ∧ Box w4 br 23 (rtL rtZ) ∧ Box w4 bs 26 (smL smZ) ∧ w.heap.size ≤ bp ∧ bp < br ∧ br < bs ∧ True) := by
    obtain ⟨hb, b0, b1, b2, l0, l1, l2, _⟩ := HX3.out
    exact ⟨Below.on hb hB, b0.later hB, b1.later hB, b2.later hB, l0, l1, l2, trivial⟩
  clear hB HX3
  go_wp2_with fail
  refine (c2 _).mono ?_
  rintro e w' ⟨rfl, hq⟩
  obtain rfl := hq.symm
  clear hq
  go_wp2_with (first | (refine wpS_buildL (ps := []) rfl rfl built23 ?_) | (refine wpS_buildL (ps := []) rfl rfl built26 ?_) | (refine wpS_store rfl rfl rfl rfl rfl (HX4.out.2.2.1) rfl isS23 (rtL_one _) ?_))
  intro X5 HN
  have HX5 : Hid (Below w.heap.size w X5 ∧ Box X5 bp 23 (rtL q) ∧ Box X5 br 23 (rtL rtZ) ∧ Box X5 bs 26 (smL smZ) ∧ w.heap.size ≤ bp ∧ bp < br ∧ br < bs ∧ True) := by
    obtain ⟨hb, b0, b1, b2, l0, l1, l2, _⟩ := HX4.out
    obtain ⟨st, bn⟩ := HN.out
    exact ⟨st.below _ _ (by omega) hb, b0.sto st (by omega), bn, b2.sto st (by omega), l0, l1, l2, trivial⟩
  clear HN HX4
  go_wp2_with (first | (refine wpS_store rfl rfl rfl rfl rfl (HX5.out.2.2.2.1) rfl isS26 (smL_one _) ?_))
  intro X6 HN
  have HX6 : Hid (Below w.heap.size w X6 ∧ Box X6 bp 23 (rtL q) ∧ Box X6 br 23 (rtL rtZ) ∧ Box X6 bs 26 (smL smZ) ∧ w.heap.size ≤ bp ∧ bp < br ∧ br < bs ∧ True) := by
    obtain ⟨hb, b0, b1, b2, l0, l1, l2, _⟩ := HX5.out
    obtain ⟨st, bn⟩ := HN.out
    exact ⟨st.below _ _ (by omega) hb, b0.sto st (by omega), b1.sto st (by omega), bn, l0, l1, l2, trivial⟩
  clear HN HX5
  go_wp2_with fail
  refine bodyPost_ret (resSS rfl _ _ rfl (HX6.out.2.2.1) isS23 rfl (HX6.out.2.2.2.1) isS26) rfl ?_
  exact ⟨rfl, HX6.out.1⟩

set_option maxRecDepth 100000 in
set_option maxHeartbeats 4000000 in
theorem rgiv_low (q : Rt) (A : Option Addr) (cap : Nat) (ts : List Rc) (now low : Int) (c1 : ∀ W, Calls Try.prog 14 #[agv (rtL q)] W fun e w' => e = .returned (.int .i64 0) ∧ Below W.heap.size W w') (c2 : ∀ W, Calls Try.prog 23 #[.int .i64 now] W fun e w' => e = .returned (.bool true) ∧ w' = W) (c3 : ∀ W, Calls Try.prog 23 #[.int .i64 low] W fun e w' => e = .returned (.bool false) ∧ w' = W)  (w : World) : Calls Try.prog 12 #[agv (rtL q), .slice A ts.length cap, .int .i64 now, .int .i64 low] w fun e w' => e = .returned (.tuple #[agv (rtL rtZ), agv (smL smZ), .int .i64 2]) ∧ Below w.heap.size w w' := by
  go_enter Try.func12, Try.ntmps12
  go_wp2_with (first | (refine wpS_box rfl rfl rfl ?_))
  intro X1 bp HN
  have HX1 : Hid (Below w.heap.size w X1 ∧ Box X1 bp 23 (rtL q) ∧ w.heap.size ≤ bp ∧ True) := by
    have hb := Below.refl w.heap.size w
    obtain ⟨hg, hb2, bn⟩ := HN.out
    have hz := hb.size
    exact ⟨Below.on hb hb2, bn, by omega, trivial⟩
  clear HN 
  go_wp2_with (first | (refine wpS_alloc rfl rfl zero23 ?_))
  intro X2 br HN
  have HX2 : Hid (Below w.heap.size w X2 ∧ Box X2 bp 23 (rtL q) ∧ Box X2 br 23 (rtL rtZ) ∧ w.heap.size ≤ bp ∧ bp < br ∧ True) := by
    obtain ⟨hb, b0, l0, _⟩ := HX1.out
    obtain ⟨hg, hb2, bn⟩ := HN.out
    have z0 := b0.lt
    exact ⟨Below.on hb hb2, b0.later hb2, bn, l0, by omega, trivial⟩
  clear HN HX1
  go_wp2_with (first | (refine wpS_alloc rfl rfl zero26 ?_))
  intro X3 bs HN
  have HX3 : Hid (Below w.heap.size w X3 ∧ Box X3 bp 23 (rtL q) ∧ Box X3 br 23 (rtL rtZ) ∧ Box X3 bs 26 (smL smZ) ∧ w.heap.size ≤ bp ∧ bp < br ∧ br < bs ∧ True) := by
    obtain ⟨hb, b0, b1, l0, l1, _⟩ := HX2.out
    obtain ⟨hg, hb2, bn⟩ := HN.out
    have z0 := b0.lt
    have z1 := b1.lt
    exact ⟨Below.on hb hb2, b0.later hb2, b1.later hb2, bn, l0, l1, by omega, trivial⟩
  clear HN HX2
  go_wp2_with (first | (refine wpS_load rfl rfl rfl (HX3.out.2.1) isS23 ?_) | fail)
  refine (c1 _).mono ?_
  rintro e w4 ⟨rfl, hB⟩
  have HX4 : Hid (Below w.heap.size w w4 ∧ Box w4 bp 23 (rtL q) ∧ Box w4 br 23 (rtL rtZ) ∧ Box w4 bs 26 (smL smZ) ∧ w.heap.size ≤ bp ∧ bp < br ∧ br < bs ∧ True) := by
    obtain ⟨hb, b0, b1, b2, l0, l1, l2, _⟩ := HX3.out
    exact ⟨Below.on hb hB, b0.later hB, b1.later hB, b2.later hB, l0, l1, l2, trivial⟩
  clear hB HX3
  go_wp2_with fail
  refine (c2 _).mono ?_
  rintro e w' ⟨rfl, hq⟩
  obtain rfl := hq.symm
  clear hq
  go_wp2_with fail
  refine (c3 _).mono ?_
  rintro e w' ⟨rfl, hq⟩
  obtain rfl := hq.symm
  clear hq
  go_wp2_with (first | (refine wpS_buildL (ps := []) rfl rfl built23 ?_) | (refine wpS_buildL (ps := []) rfl rfl built26 ?_) | (refine wpS_store rfl rfl rfl rfl rfl (HX4.out.2.2.1) rfl isS23 (rtL_one _) ?_))
  intro X5 HN
  have HX5 : Hid (Below w.heap.size w X5 ∧ Box X5 bp 23 (rtL q) ∧ Box X5 br 23 (rtL rtZ) ∧ Box X5 bs 26 (smL smZ) ∧ w.heap.size ≤ bp ∧ bp < br ∧ br < bs ∧ True) := by
    obtain ⟨hb, b0, b1, b2, l0, l1, l2, _⟩ := HX4.out
    obtain ⟨st, bn⟩ := HN.out
    exact ⟨st.below _ _ (by omega) hb, b0.sto st (by omega), bn, b2.sto st (by omega), l0, l1, l2, trivial⟩
  clear HN HX4
  go_wp2_with (first | (refine wpS_store rfl rfl rfl rfl rfl (HX5.out.2.2.2.1) rfl isS26 (smL_one _) ?_))
  intro X6 HN
  have HX6 : Hid (Below w.heap.size w X6 ∧ Box X6 bp 23 (rtL q) ∧ Box X6 br 23 (rtL rtZ) ∧ Box X6 bs 26 (smL smZ) ∧ w.heap.size ≤ bp ∧ bp < br ∧ br < bs ∧ True) := by
    obtain ⟨hb, b0, b1, b2, l0, l1, l2, _⟩ := HX5.out
    obtain ⟨st, bn⟩ := HN.out
    exact ⟨st.below _ _ (by omega) hb, b0.sto st (by omega), b1.sto st (by omega), bn, l0, l1, l2, trivial⟩
  clear HN HX5
  go_wp2_with fail
  refine bodyPost_ret (resSS rfl _ _ rfl (HX6.out.2.2.1) isS23 rfl (HX6.out.2.2.2.1) isS26) rfl ?_
  exact ⟨rfl, HX6.out.1⟩
end Go.Proofs.Ytdgiapeniafklaa
