/- The walk of WindowEdge, whole. -/
import Derived.Test.YtliiogafemlagaaEdgeWalk
namespace Go.Proofs.Ytliiogafemlagaa
open Go.ChangeShapes Go.WideShapes Go.ChangeAt Go.RowKit Go.Shelf
set_option linter.unusedVariables false
set_option linter.unusedSimpArgs false
attribute [local go_sem] Oper.semAt_some


set_option maxRecDepth 100000 in
set_option maxHeartbeats 4000000 in
theorem edge_o0 (s0 r : Int) (q : Wn) (A B : Option Addr) (n cap nx capx : Nat) (hnb : n ≤ 9223372036854775807) (hxb : nx ≤ 9223372036854775807) (h : (r != 0) = true) (c0 : ∀ W, Calls Try.prog 15 #[.int .i64 s0] W fun e w' => e = .returned (.tuple #[agv (wnL q), .int .i64 r]) ∧ Below W.heap.size W w') (hd : ∀ W, Calls Try.prog 9 #[] W fun e w' => e = .returned (.bool true) ∧ Below W.heap.size W w') (w : World) : Calls Try.prog 5 #[.int .i64 s0, .slice A n cap, .slice B nx capx] w fun e w' => e = .returned (.bool true) ∧ Below w.heap.size w w' := by
  go_enter Try.func5, Try.ntmps5
  go_wp2_with fail
  refine (c0 _).mono ?_
  rintro e w1 ⟨rfl, hB⟩
  have HX1 : Hid (Below w.heap.size w w1 ∧ True) := by
    have hb := Below.refl w.heap.size w
    exact ⟨Below.on hb hB, trivial⟩
  clear hB 
  go_wp2_with (first | (refine wpS_alloc rfl rfl zero23 ?_))
  intro X2 gp HN
  have HX2 : Hid (Below w.heap.size w X2 ∧ Box X2 gp 23 (wnL wnZ) ∧ w.heap.size ≤ gp ∧ True) := by
    obtain ⟨hb, _⟩ := HX1.out
    obtain ⟨hg, hb2, bn⟩ := HN.out
    have hz := hb.size
    exact ⟨Below.on hb hb2, bn, by omega, trivial⟩
  clear HN HX1
  go_wp2_with (first | (refine wpS_store rfl rfl rfl rfl rfl (HX2.out.2.1) rfl isS23 (wnL_one _) ?_))
  intro X3 HN
  have HX3 : Hid (Below w.heap.size w X3 ∧ Box X3 gp 23 (wnL q) ∧ w.heap.size ≤ gp ∧ True) := by
    obtain ⟨hb, b0, l0, _⟩ := HX2.out
    obtain ⟨st, bn⟩ := HN.out
    exact ⟨st.below _ _ (by omega) hb, bn, l0, trivial⟩
  clear HN HX2
  go_wp2_with fail
  refine (hd _).mono ?_
  rintro e w4 ⟨rfl, hB⟩
  have HX4 : Hid (Below w.heap.size w w4 ∧ Box w4 gp 23 (wnL q) ∧ w.heap.size ≤ gp ∧ True) := by
    obtain ⟨hb, b0, l0, _⟩ := HX3.out
    exact ⟨Below.on hb hB, b0.later hB, l0, trivial⟩
  clear hB HX3
  go_wp2_with fail
  go_ret
  exact ⟨rfl, HX4.out.1⟩

set_option maxRecDepth 100000 in
set_option maxHeartbeats 4000000 in
theorem edge_o1 (s0 : Int) (q : Wn) (A B : Option Addr) (n cap nx capx : Nat) (hnb : n ≤ 9223372036854775807) (hxb : nx ≤ 9223372036854775807) (h4 : decide ((300 : Int) < (n : Int)) = true) (c0 : ∀ W, Calls Try.prog 15 #[.int .i64 s0] W fun e w' => e = .returned (.tuple #[agv (wnL q), .int .i64 0]) ∧ Below W.heap.size W w') (hd : ∀ W, Calls Try.prog 9 #[] W fun e w' => e = .returned (.bool true) ∧ Below W.heap.size W w') (w : World) : Calls Try.prog 5 #[.int .i64 s0, .slice A n cap, .slice B nx capx] w fun e w' => e = .returned (.bool true) ∧ Below w.heap.size w w' := by
  go_enter Try.func5, Try.ntmps5
  go_wp2_with fail
  refine (c0 _).mono ?_
  rintro e w1 ⟨rfl, hB⟩
  have HX1 : Hid (Below w.heap.size w w1 ∧ True) := by
    have hb := Below.refl w.heap.size w
    exact ⟨Below.on hb hB, trivial⟩
  clear hB 
  go_wp2_with (first | (refine wpS_alloc rfl rfl zero23 ?_))
  intro X2 gp HN
  have HX2 : Hid (Below w.heap.size w X2 ∧ Box X2 gp 23 (wnL wnZ) ∧ w.heap.size ≤ gp ∧ True) := by
    obtain ⟨hb, _⟩ := HX1.out
    obtain ⟨hg, hb2, bn⟩ := HN.out
    have hz := hb.size
    exact ⟨Below.on hb hb2, bn, by omega, trivial⟩
  clear HN HX1
  go_wp2_with (first | (refine wpS_store rfl rfl rfl rfl rfl (HX2.out.2.1) rfl isS23 (wnL_one _) ?_))
  intro X3 HN
  have HX3 : Hid (Below w.heap.size w X3 ∧ Box X3 gp 23 (wnL q) ∧ w.heap.size ≤ gp ∧ True) := by
    obtain ⟨hb, b0, l0, _⟩ := HX2.out
    obtain ⟨st, bn⟩ := HN.out
    exact ⟨st.below _ _ (by omega) hb, bn, l0, trivial⟩
  clear HN HX2
  go_wp2_with fail
  refine (hd _).mono ?_
  rintro e w4 ⟨rfl, hB⟩
  have HX4 : Hid (Below w.heap.size w w4 ∧ Box w4 gp 23 (wnL q) ∧ w.heap.size ≤ gp ∧ True) := by
    obtain ⟨hb, b0, l0, _⟩ := HX3.out
    exact ⟨Below.on hb hB, b0.later hB, l0, trivial⟩
  clear hB HX3
  go_wp2_with fail
  go_ret
  exact ⟨rfl, HX4.out.1⟩

set_option maxRecDepth 100000 in
set_option maxHeartbeats 4000000 in
theorem edge_o2 (s0 : Int) (q : Wn) (A B : Option Addr) (n cap nx capx : Nat) (hnb : n ≤ 9223372036854775807) (hxb : nx ≤ 9223372036854775807) (h4 : decide ((300 : Int) < (n : Int)) = false) (hxn : decide ((nx : Int) < (n : Int)) = true) (hxd : decide (nx < n) = true) (c0 : ∀ W, Calls Try.prog 15 #[.int .i64 s0] W fun e w' => e = .returned (.tuple #[agv (wnL q), .int .i64 0]) ∧ Below W.heap.size W w') (hd : ∀ W, Calls Try.prog 9 #[] W fun e w' => e = .returned (.bool true) ∧ Below W.heap.size W w') (w : World) : Calls Try.prog 5 #[.int .i64 s0, .slice A n cap, .slice B nx capx] w fun e w' => e = .returned (.bool true) ∧ Below w.heap.size w w' := by
  go_enter Try.func5, Try.ntmps5
  go_wp2_with fail
  refine (c0 _).mono ?_
  rintro e w1 ⟨rfl, hB⟩
  have HX1 : Hid (Below w.heap.size w w1 ∧ True) := by
    have hb := Below.refl w.heap.size w
    exact ⟨Below.on hb hB, trivial⟩
  clear hB 
  go_wp2_with (first | (refine wpS_alloc rfl rfl zero23 ?_))
  intro X2 gp HN
  have HX2 : Hid (Below w.heap.size w X2 ∧ Box X2 gp 23 (wnL wnZ) ∧ w.heap.size ≤ gp ∧ True) := by
    obtain ⟨hb, _⟩ := HX1.out
    obtain ⟨hg, hb2, bn⟩ := HN.out
    have hz := hb.size
    exact ⟨Below.on hb hb2, bn, by omega, trivial⟩
  clear HN HX1
  go_wp2_with (first | (refine wpS_store rfl rfl rfl rfl rfl (HX2.out.2.1) rfl isS23 (wnL_one _) ?_))
  intro X3 HN
  have HX3 : Hid (Below w.heap.size w X3 ∧ Box X3 gp 23 (wnL q) ∧ w.heap.size ≤ gp ∧ True) := by
    obtain ⟨hb, b0, l0, _⟩ := HX2.out
    obtain ⟨st, bn⟩ := HN.out
    exact ⟨st.below _ _ (by omega) hb, bn, l0, trivial⟩
  clear HN HX2
  go_wp2_with fail
  refine (hd _).mono ?_
  rintro e w4 ⟨rfl, hB⟩
  have HX4 : Hid (Below w.heap.size w w4 ∧ Box w4 gp 23 (wnL q) ∧ w.heap.size ≤ gp ∧ True) := by
    obtain ⟨hb, b0, l0, _⟩ := HX3.out
    exact ⟨Below.on hb hB, b0.later hB, l0, trivial⟩
  clear hB HX3
  go_wp2_with fail
  go_ret
  exact ⟨rfl, HX4.out.1⟩

theorem edge_walk (s0 : Int) (A : Option Addr) (cap : Nat) (ts : List Tm) (B : Option Addr) (nx capx : Nat) (xs : List Int) (w : World) (h1 : I64 s0) (hT : TimsAt w A ts) (hX : IntsAt w B xs) (hx : xs.length = nx) (hxb : nx ≤ 9223372036854775807) : Calls Try.prog 5 #[.int .i64 s0, .slice A ts.length cap, .slice B nx capx] w fun e w' => e = .returned (.bool true) ∧ Below w.heap.size w w' := by
  have hml : ts.length ≤ 9223372036854775807 := hT.1
  have c0 := fun W => new_is s0 rfl rfl W
  by_cases he : newE s0 = 0
  · have hs : szB s0 = true := by
      cases k : szB s0 with
      | true => rfl
      | false => unfold newE at he; rw [k] at he; simp at he
    rw [he] at c0
    by_cases h4 : (300 : Int) < (ts.length : Int)
    · exact edge_o1 s0 _ A B _ cap nx capx hml hxb (decide_eq_true h4) c0 heads_is w
    by_cases h5 : nx < ts.length
    · exact edge_o2 s0 _ A B _ cap nx capx hml hxb (decide_eq_false h4) (decide_eq_true (by omega)) (decide_eq_true h5) c0 heads_is w
    exact edge_main s0 A B cap nx capx ts xs (by omega) (by omega) hs hx heads_is w hT hX
  · exact edge_o0 s0 _ _ A B _ cap nx capx hml hxb (by simpa using he) c0 heads_is w
end Go.Proofs.Ytliiogafemlagaa
