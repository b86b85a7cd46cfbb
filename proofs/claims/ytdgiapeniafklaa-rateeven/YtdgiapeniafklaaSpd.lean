/- The contracts of roundTrip and speed. -/
import Derived.Test.YtdgiapeniafklaaLeaf
import Derived.Test.YtdgiapeniafklaaSMulDiv
namespace Go.Proofs.Ytdgiapeniafklaa
open Go.ChangeShapes Go.WideShapes Go.ChangeAt Go.RowKit Go.Shelf
set_option linter.unusedVariables false
set_option linter.unusedSimpArgs false
attribute [local go_sem] Oper.semAt_some


set_option maxRecDepth 100000 in
set_option maxHeartbeats 4000000 in
theorem rtt_y (x : Rc) (now r : Int) (h : x.tx = 1) (hr : max 0 (now - x.sent) = r) (hs : 0 ≤ x.sent ∧ x.sent ≤ 1125899906842624 ∧ 0 ≤ now ∧ now ≤ 1125899906842624) (w : World) : Calls Try.prog 21 #[agv (rcL x), .int .i64 now] w fun e w' => e = .returned (.int .i64 r) ∧ Below w.heap.size w w' := by
  have hm := @max2 0 (now - x.sent) r hr
  clear hr
  go_enter Try.func21, Try.ntmps21
  go_wp2_with (first | (refine wpS_box rfl rfl rfl ?_))
  intro X1 p HN
  have HX1 : Hid (Below w.heap.size w X1 ∧ Box X1 p 33 (rcL x) ∧ w.heap.size ≤ p ∧ True) := by
    have hb := Below.refl w.heap.size w
    obtain ⟨hg, hb2, bn⟩ := HN.out
    have hz := hb.size
    exact ⟨Below.on hb hb2, bn, by omega, trivial⟩
  clear HN 
  have k3 := Box.cell (HX1.out.2.1) 3 rfl
  have k4 := Box.cell (HX1.out.2.1) 4 rfl
  rw [h] at k4
  go_wp2_with fail
  go_ret
  exact ⟨rfl, HX1.out.1⟩

set_option maxRecDepth 100000 in
set_option maxHeartbeats 4000000 in
theorem rtt_n (x : Rc) (now : Int) (h : ¬ x.tx = 1) (w : World) : Calls Try.prog 21 #[agv (rcL x), .int .i64 now] w fun e w' => e = .returned (.int .i64 0) ∧ Below w.heap.size w w' := by
  have hn : (x.tx != 1) = true := by simpa using h
  go_enter Try.func21, Try.ntmps21
  go_wp2_with (first | (refine wpS_box rfl rfl rfl ?_))
  intro X1 p HN
  have HX1 : Hid (Below w.heap.size w X1 ∧ Box X1 p 33 (rcL x) ∧ w.heap.size ≤ p ∧ True) := by
    have hb := Below.refl w.heap.size w
    obtain ⟨hg, hb2, bn⟩ := HN.out
    have hz := hb.size
    exact ⟨Below.on hb hb2, bn, by omega, trivial⟩
  clear HN 
  have k3 := Box.cell (HX1.out.2.1) 3 rfl
  have k4 := Box.cell (HX1.out.2.1) 4 rfl
  go_wp2_with fail
  go_ret
  exact ⟨rfl, HX1.out.1⟩

theorem rtt_is (x : Rc) (now : Int) {r : Int} (hr : rttI x now = r) (hs : 0 ≤ x.sent ∧ x.sent ≤ 1125899906842624 ∧ 0 ≤ now ∧ now ≤ 1125899906842624) (w : World) : Calls Try.prog 21 #[agv (rcL x), .int .i64 now] w fun e w' => e = .returned (.int .i64 r) ∧ Below w.heap.size w w' := by
  subst hr
  unfold rttI
  by_cases h : x.tx = 1
  · rw [if_pos h]; exact rtt_y x now _ h rfl hs w
  · rw [if_neg h]; exact rtt_n x now h w

set_option maxRecDepth 100000 in
set_option maxHeartbeats 4000000 in
theorem spd_a (x : Rc) (given now low t : Int) (ht : max (x.sent - x.fa) (now - x.ga) = t) (hb : (0 ≤ x.gv ∧ x.gv ≤ 1125899906842624) ∧ (0 ≤ x.ga ∧ x.ga ≤ 1125899906842624) ∧ (0 ≤ x.fa ∧ x.fa ≤ 1125899906842624) ∧ (0 ≤ x.sent ∧ x.sent ≤ 1125899906842624) ∧ (0 ≤ now ∧ now ≤ 1125899906842624) ∧ 0 ≤ given ∧ given ≤ 1125899906842624) (h : t ≤ 0) (w : World) : Calls Try.prog 22 #[agv (rcL x), .int .i64 given, .int .i64 now, .int .i64 low] w fun e w' => e = .returned (.int .i64 0) ∧ Below w.heap.size w w' := by
  have hm := @max2 (x.sent - x.fa) (now - x.ga) t ht
  clear ht
  go_enter Try.func22, Try.ntmps22
  go_wp2_with (first | (refine wpS_box rfl rfl rfl ?_))
  intro X1 p HN
  have HX1 : Hid (Below w.heap.size w X1 ∧ Box X1 p 33 (rcL x) ∧ w.heap.size ≤ p ∧ True) := by
    have hb := Below.refl w.heap.size w
    obtain ⟨hg, hb2, bn⟩ := HN.out
    have hz := hb.size
    exact ⟨Below.on hb hb2, bn, by omega, trivial⟩
  clear HN 
  have k3 := Box.cell (HX1.out.2.1) 3 rfl
  have k8 := Box.cell (HX1.out.2.1) 8 rfl
  have k9 := Box.cell (HX1.out.2.1) 9 rfl
  have k10 := Box.cell (HX1.out.2.1) 10 rfl
  go_wp2_with fail
  go_ret
  exact ⟨rfl, HX1.out.1⟩

set_option maxRecDepth 100000 in
set_option maxHeartbeats 4000000 in
theorem spd_b (x : Rc) (given now low t : Int) (ht : max (x.sent - x.fa) (now - x.ga) = t) (hb : (0 ≤ x.gv ∧ x.gv ≤ 1125899906842624) ∧ (0 ≤ x.ga ∧ x.ga ≤ 1125899906842624) ∧ (0 ≤ x.fa ∧ x.fa ≤ 1125899906842624) ∧ (0 ≤ x.sent ∧ x.sent ≤ 1125899906842624) ∧ (0 ≤ now ∧ now ≤ 1125899906842624) ∧ 0 ≤ given ∧ given ≤ 1125899906842624) (h : 0 < t ∧ t < low) (w : World) : Calls Try.prog 22 #[agv (rcL x), .int .i64 given, .int .i64 now, .int .i64 low] w fun e w' => e = .returned (.int .i64 0) ∧ Below w.heap.size w w' := by
  have hm := @max2 (x.sent - x.fa) (now - x.ga) t ht
  clear ht
  go_enter Try.func22, Try.ntmps22
  go_wp2_with (first | (refine wpS_box rfl rfl rfl ?_))
  intro X1 p HN
  have HX1 : Hid (Below w.heap.size w X1 ∧ Box X1 p 33 (rcL x) ∧ w.heap.size ≤ p ∧ True) := by
    have hb := Below.refl w.heap.size w
    obtain ⟨hg, hb2, bn⟩ := HN.out
    have hz := hb.size
    exact ⟨Below.on hb hb2, bn, by omega, trivial⟩
  clear HN 
  have k3 := Box.cell (HX1.out.2.1) 3 rfl
  have k8 := Box.cell (HX1.out.2.1) 8 rfl
  have k9 := Box.cell (HX1.out.2.1) 9 rfl
  have k10 := Box.cell (HX1.out.2.1) 10 rfl
  go_wp2_with fail
  go_ret
  exact ⟨rfl, HX1.out.1⟩

set_option maxRecDepth 100000 in
set_option maxHeartbeats 4000000 in
theorem spd_c (x : Rc) (given now low t : Int) (ht : max (x.sent - x.fa) (now - x.ga) = t) (hb : (0 ≤ x.gv ∧ x.gv ≤ 1125899906842624) ∧ (0 ≤ x.ga ∧ x.ga ≤ 1125899906842624) ∧ (0 ≤ x.fa ∧ x.fa ≤ 1125899906842624) ∧ (0 ≤ x.sent ∧ x.sent ≤ 1125899906842624) ∧ (0 ≤ now ∧ now ≤ 1125899906842624) ∧ 0 ≤ given ∧ given ≤ 1125899906842624) (h : 0 < t ∧ low ≤ t ∧ given ≤ x.gv) (w : World) : Calls Try.prog 22 #[agv (rcL x), .int .i64 given, .int .i64 now, .int .i64 low] w fun e w' => e = .returned (.int .i64 0) ∧ Below w.heap.size w w' := by
  have hm := @max2 (x.sent - x.fa) (now - x.ga) t ht
  clear ht
  go_enter Try.func22, Try.ntmps22
  go_wp2_with (first | (refine wpS_box rfl rfl rfl ?_))
  intro X1 p HN
  have HX1 : Hid (Below w.heap.size w X1 ∧ Box X1 p 33 (rcL x) ∧ w.heap.size ≤ p ∧ True) := by
    have hb := Below.refl w.heap.size w
    obtain ⟨hg, hb2, bn⟩ := HN.out
    have hz := hb.size
    exact ⟨Below.on hb hb2, bn, by omega, trivial⟩
  clear HN 
  have k3 := Box.cell (HX1.out.2.1) 3 rfl
  have k8 := Box.cell (HX1.out.2.1) 8 rfl
  have k9 := Box.cell (HX1.out.2.1) 9 rfl
  have k10 := Box.cell (HX1.out.2.1) 10 rfl
  go_wp2_with fail
  go_ret
  exact ⟨rfl, HX1.out.1⟩

set_option maxRecDepth 100000 in
set_option maxHeartbeats 4000000 in
theorem spd_y (x : Rc) (given now low t : Int) (ht : max (x.sent - x.fa) (now - x.ga) = t) (hb : (0 ≤ x.gv ∧ x.gv ≤ 1125899906842624) ∧ (0 ≤ x.ga ∧ x.ga ≤ 1125899906842624) ∧ (0 ≤ x.fa ∧ x.fa ≤ 1125899906842624) ∧ (0 ≤ x.sent ∧ x.sent ≤ 1125899906842624) ∧ (0 ≤ now ∧ now ≤ 1125899906842624) ∧ 0 ≤ given ∧ given ≤ 1125899906842624) (h : 0 < t ∧ low ≤ t ∧ x.gv < given) (y er : Int) (c1 : ∀ W, Calls Try.prog 27 #[.int .i64 (given - x.gv), .int .i64 1000000, .int .i64 t] W fun e w' => e = .returned (.tuple #[.int .i64 y, .int .i64 er]) ∧ Below W.heap.size W w')  (w : World) : Calls Try.prog 22 #[agv (rcL x), .int .i64 given, .int .i64 now, .int .i64 low] w fun e w' => e = .returned (.int .i64 y) ∧ Below w.heap.size w w' := by
  have hm := @max2 (x.sent - x.fa) (now - x.ga) t ht
  clear ht
  go_enter Try.func22, Try.ntmps22
  go_wp2_with (first | (refine wpS_box rfl rfl rfl ?_))
  intro X1 p HN
  have HX1 : Hid (Below w.heap.size w X1 ∧ Box X1 p 33 (rcL x) ∧ w.heap.size ≤ p ∧ True) := by
    have hb := Below.refl w.heap.size w
    obtain ⟨hg, hb2, bn⟩ := HN.out
    have hz := hb.size
    exact ⟨Below.on hb hb2, bn, by omega, trivial⟩
  clear HN 
  have k3 := Box.cell (HX1.out.2.1) 3 rfl
  have k8 := Box.cell (HX1.out.2.1) 8 rfl
  have k9 := Box.cell (HX1.out.2.1) 9 rfl
  have k10 := Box.cell (HX1.out.2.1) 10 rfl
  go_wp2_with fail
  refine (c1 _).mono ?_
  rintro e w2 ⟨rfl, hB⟩
  have HX2 : Hid (Below w.heap.size w w2 ∧ Box w2 p 33 (rcL x) ∧ w.heap.size ≤ p ∧ True) := by
    obtain ⟨hb, b0, l0, _⟩ := HX1.out
    exact ⟨Below.on hb hB, b0.later hB, l0, trivial⟩
  clear hB HX1
  go_wp2_with fail
  go_ret
  exact ⟨rfl, HX2.out.1⟩

theorem spd_is (x : Rc) (given now low : Int) (hb : (0 ≤ x.gv ∧ x.gv ≤ 1125899906842624) ∧ (0 ≤ x.ga ∧ x.ga ≤ 1125899906842624) ∧ (0 ≤ x.fa ∧ x.fa ≤ 1125899906842624) ∧ (0 ≤ x.sent ∧ x.sent ≤ 1125899906842624) ∧ (0 ≤ now ∧ now ≤ 1125899906842624) ∧ 0 ≤ given ∧ given ≤ 1125899906842624) {r : Int} (hr : spdI x given now low = r) (w : World) :
    Calls Try.prog 22 #[agv (rcL x), .int .i64 given, .int .i64 now, .int .i64 low] w fun e w' => e = .returned (.int .i64 r) ∧ Below w.heap.size w w' := by
  subst hr
  unfold spdI
  obtain ⟨t, ht⟩ : ∃ t, spdT x now = t := ⟨_, rfl⟩
  rw [ht]
  unfold spdT at ht
  by_cases h1 : t ≤ 0
  · rw [if_pos (.inl h1)]; exact spd_a x given now low t ht hb h1 w
  by_cases h2 : t < low
  · rw [if_pos (.inr (.inl h2))]; exact spd_b x given now low t ht hb (by omega) w
  by_cases h3 : given ≤ x.gv
  · rw [if_pos (.inr (.inr h3))]; exact spd_c x given now low t ht hb (by omega) w
  · rw [if_neg (by omega)]
    refine spd_y x given now low t ht hb (by omega) (mulDivI (given - x.gv) 1000000 t) (mulDivE (given - x.gv) 1000000 t) (fun W => (muldiv_walk (given - x.gv) 1000000 t (by omega) (by omega) (by omega) W).mono ?_) w
    rintro e w' ⟨rfl, n, rfl⟩
    exact ⟨rfl, below_drewN (Below.refl _ _) n⟩
end Go.Proofs.Ytdgiapeniafklaa
