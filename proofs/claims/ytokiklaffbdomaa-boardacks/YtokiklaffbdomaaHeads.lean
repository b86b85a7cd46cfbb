/- What must come at any rate. -/
import Derived.Test.YtokiklaffbdomaaSack
import Derived.Test.YtokiklaffbdomaaAck
import Derived.Test.YtokiklaffbdomaaSend
import Derived.Test.YtokiklaffbdomaaDrop
import Derived.Test.YtokiklaffbdomaaAgain
import Derived.Test.YtokiklaffbdomaaLost
import Derived.Test.YtokiklaffbdomaaHigh
import Derived.Test.YtokiklaffbdomaaCount
namespace Go.Proofs.Ytokiklaffbdomaa
open Go.ChangeShapes Go.WideShapes Go.ChangeAt Go.RowKit Go.Shelf
set_option linter.unusedVariables false
attribute [local go_sem] Oper.semAt_some

open Sp (Tm)
theorem sack_any (A : Option Addr) (cap : Nat) (ts : List Rc) (C : Option Addr) (cd : Nat) (sp : List Tm) (w : World) (hT : RecsAt w A ts) (hA : A = none → cap = 0) (hS : Sp.TimsAt w C sp) (hC : C = none → cd = 0) (hb : sp.length * 16 ≤ 140737488355328) :
    Calls Try.prog 23 #[.slice A ts.length cap, .slice C sp.length cd] w fun e W' => SackSays ts sp w e W' := by
  cases hc : okB ts with
  | false => exact sack_no A cap ts C cd sp w hT hc
  | true => exact sack_yes A cap ts C cd sp w hT hA hS hC hb hc
def x0 : Rc := ⟨0, 3, false, 0, 1, false, false, false, 0, 0, 0, false⟩
def x1 : Rc := ⟨3, 5, false, 0, 1, false, false, false, 0, 0, 0, false⟩
def x2 : Rc := ⟨6, 7, false, 0, 1, false, false, false, 0, 0, 0, false⟩
def y1 : Rc := ⟨4, 5, false, 0, 1, false, false, false, 0, 0, 0, false⟩
def z1 : Rc := ⟨3, 5, false, 0, 1, true, false, false, 0, 0, 0, false⟩
def d0 : Rc := ⟨0, 3, false, 0, 1, false, true, false, 0, 0, 0, false⟩
def d1 : Rc := ⟨3, 5, false, 0, 1, false, true, false, 0, 0, 0, false⟩
theorem e_left : leftL [x0, x1] 4 = [y1] := by kernel_rfl
theorem e_gone : goneL [x0, x1] 4 = [x0] := by kernel_rfl
theorem e_ack : ackE [x0, x1] 4 = 0 := by kernel_rfl
theorem e_sack : sackL [x0, x1] [(3, 5)] = [x0, z1] := by kernel_rfl
theorem e_fresh : freshL [x0, x1] [(3, 5)] = [x1] := by kernel_rfl
theorem e_chk : chkI [x0, x1] = 0 := by kernel_rfl
theorem e_drop : dropL [x0, z1] = [d0, d1] := by kernel_rfl
theorem e_chk2 : chkI [x0, z1] = 0 := by kernel_rfl
theorem e_send : sendL [x0, x1] x2 = [] := by kernel_rfl
theorem e_chk3 : chkI ([x0, x1] ++ [x2]) = 100 := by kernel_rfl
theorem e_pipe : cntB pipeB [x0, z1] = 3 := by kernel_rfl
theorem e_high : highI [x0, z1] = 5 := by kernel_rfl
theorem e_sacked : cntN sackB [x0, z1] = 1 := by kernel_rfl
theorem e_lost : lostI [d0, d1] = 0 := by kernel_rfl
theorem h_ack (A : Option Addr) (w : World) (hT : RecsAt w A [x0, x1]) : Calls Try.prog 21 #[.slice A 2 2, .int .i64 4] w fun e W' => ∃ g vc vb vd, e = .returned (.tuple #[.slice (some ⟨g, 0, none⟩) 1 vc, .slice vb 1 vd, .int .i64 0]) ∧ W'.cell? ⟨g, 0, none⟩ = some (.int .i64 4) ∧ RowKit.Below w.heap.size w W' := by
  refine (ack_any A 2 [x0, x1] 4 w hT).mono ?_
  intro e W' h
  unfold AckSays at h
  rw [e_left, e_gone, e_ack] at h
  obtain ⟨va, vc, vb, vd, he, h1, _, h3⟩ := h
  obtain ⟨g, rfl, _, _⟩ := row_some h1 (by decide)
  have c := (row_cells h1 0 (by decide)).out.1
  rw [Nat.zero_mul] at c
  exact ⟨g, vc, vb, vd, he, c, h3⟩
theorem h_sack (A C : Option Addr) (w : World) (hT : RecsAt w A [x0, x1]) (hA : A ≠ none) (hS : Sp.TimsAt w C [(3, 5)]) (hC : C ≠ none) : Calls Try.prog 23 #[.slice A 2 2, .slice C 1 1] w fun e W' => ∃ va vc vb vd, e = .returned (.tuple #[.slice va 2 vc, .slice vb 1 vd, .int .i64 0]) ∧ RecsAt W' va [x0, z1] ∧ (va = none → vc = 0) ∧ RowKit.Below w.heap.size w W' := by
  refine (sack_any A 2 [x0, x1] C 1 [(3, 5)] w hT (fun h => absurd h hA) hS (fun h => absurd h hC) (by decide)).mono ?_
  intro e W' h
  unfold SackSays at h
  rw [e_sack, e_fresh, e_chk] at h
  obtain ⟨va, vc, vb, vd, he, h1, _, h3⟩ := h
  exact ⟨va, vc, vb, vd, he, h1.recs, h1.none0, h3⟩
theorem h_drop (A : Option Addr) (cap : Nat) (w : World) (hT : RecsAt w A [x0, z1]) (hA : A = none → cap = 0) : Calls Try.prog 17 #[.slice A 2 cap] w fun e W' => ∃ va vc, e = .returned (.tuple #[.slice va 2 vc, .int .i64 0]) ∧ RecsAt W' va [d0, d1] ∧ RowKit.Below w.heap.size w W' := by
  refine (drop_any A cap [x0, z1] w hT hA).mono ?_
  intro e W' h
  rw [e_drop, e_chk2] at h
  obtain ⟨va, vc, he, h1, h3⟩ := h
  exact ⟨va, vc, he, h1.recs, h3⟩
theorem h_send (A : Option Addr) (w : World) (hT : RecsAt w A [x0, x1]) (hA : A ≠ none) : Calls Try.prog 14 #[.slice A 2 2, .agg #[.int .i64 6, .int .i64 7, .bool false, .int .i64 0, .int .i64 1, .bool false, .bool false, .bool false, .int .i64 0, .int .i64 0, .int .i64 0, .bool false]] w fun e W' => ∃ va vc, e = .returned (.tuple #[.slice va 0 vc, .int .i64 100]) ∧ RowKit.Below w.heap.size w W' := by
  refine (send_any A 2 [x0, x1] x2 w hT (fun h => absurd h hA) (by decide)).mono ?_
  intro e W' h
  rw [e_send, e_chk3] at h
  obtain ⟨va, vc, he, _, h3⟩ := h
  exact ⟨va, vc, he, h3⟩
theorem h_pipe (A : Option Addr) (cap : Nat) (w : World) (hT : RecsAt w A [x0, z1]) : Calls Try.prog 11 #[.slice A 2 cap] w fun e W' => e = .returned (.int .i64 3) ∧ RowKit.Below w.heap.size w W' := by
  have := pipe_any A cap [x0, z1] w hT; rwa [e_pipe] at this
theorem h_high (A : Option Addr) (cap : Nat) (w : World) (hT : RecsAt w A [x0, z1]) : Calls Try.prog 28 #[.slice A 2 cap] w fun e W' => e = .returned (.int .i64 5) ∧ RowKit.Below w.heap.size w W' := by
  have := high_any A cap [x0, z1] w hT; rwa [e_high] at this
theorem h_sacked (A : Option Addr) (cap : Nat) (w : World) (hT : RecsAt w A [x0, z1]) : Calls Try.prog 30 #[.slice A 2 cap] w fun e W' => e = .returned (.int .i64 1) ∧ RowKit.Below w.heap.size w W' := by
  have := sacked_any A cap [x0, z1] w hT; rwa [e_sacked] at this
theorem h_lost (A : Option Addr) (cap : Nat) (w : World) (hT : RecsAt w A [d0, d1]) : Calls Try.prog 26 #[.slice A 2 cap] w fun e W' => e = .returned (.int .i64 0) ∧ RowKit.Below w.heap.size w W' := by
  have := lost_any A cap [d0, d1] w hT; rwa [e_lost] at this
theorem h_l (w : World) : RecsAt (w.alloc (.cells #[.int .i64 0, .int .i64 3, .bool false, .int .i64 0, .int .i64 1, .bool false, .bool false, .bool false, .int .i64 0, .int .i64 0, .int .i64 0, .bool false, .int .i64 3, .int .i64 5, .bool false, .int .i64 0, .int .i64 1, .bool false, .bool false, .bool false, .int .i64 0, .int .i64 0, .int .i64 0, .bool false] 28)) (some ⟨w.heap.size, 0, none⟩) [x0, x1] := recs_new w [x0, x1] (by decide)
theorem h_s (w : World) : Sp.TimsAt (w.alloc (.cells #[.int .i64 3, .int .i64 5] 54)) (some ⟨w.heap.size, 0, none⟩) [(3, 5)] := by
  refine ⟨by decide, fun j hj => ⟨_, _, rfl, ?_⟩⟩
  obtain rfl : j = 0 := by simp at hj; exact hj
  have b := Box.new w 54 [.int .i64 3, .int .i64 5]
  exact ⟨b.cell 0 rfl, b.cell 1 rfl⟩
set_option maxRecDepth 100000 in
set_option maxHeartbeats 4000000 in
theorem heads_walk (w : World) : Calls Try.prog 10 #[] w fun e W' => e = .returned (.bool true) ∧ RowKit.Below w.heap.size w W' := by
  have HL : Hid (RecsAt (w.alloc (.cells #[.int .i64 0, .int .i64 3, .bool false, .int .i64 0, .int .i64 1, .bool false, .bool false, .bool false, .int .i64 0, .int .i64 0, .int .i64 0, .bool false, .int .i64 3, .int .i64 5, .bool false, .int .i64 0, .int .i64 1, .bool false, .bool false, .bool false, .int .i64 0, .int .i64 0, .int .i64 0, .bool false] 28)) (some ⟨w.heap.size, 0, none⟩) [x0, x1]) := h_l w
  go_enter Try.func10, Try.ntmps10
  go_wp2_with fail
  refine (h_ack _ _ HL.out).mono ?_
  rintro e W1 ⟨g, vc, vb, vd, rfl, hc1, hB1⟩
  have HB1 : Hid (RowKit.Below w.heap.size w W1) := Below.on (below_new w _) hB1
  have HL1 : Hid (RecsAt W1 (some ⟨w.heap.size, 0, none⟩) [x0, x1]) := HL.out.later hB1
  have HC1 : Hid (W1.cell? ⟨g, 0, none⟩ = some (.int .i64 4)) := hc1
  clear HL hB1 hc1
  go_wp2_with fail
  refine (h_sack _ _ _ (HL1.out.alloc _) (by simp) (h_s W1) (by simp)).mono ?_
  rintro e W2 ⟨va, mc, fb, fd, rfl, hm, hm0, hB2⟩
  have hB2' : RowKit.Below W1.heap.size W1 W2 := Below.on (below_new W1 _) hB2
  have HB2 : Hid (RowKit.Below w.heap.size w W2) := Below.on HB1.out hB2'
  have HL2 : Hid (RecsAt W2 (some ⟨w.heap.size, 0, none⟩) [x0, x1]) := HL1.out.later hB2'
  have HC2 : Hid (W2.cell? ⟨g, 0, none⟩ = some (.int .i64 4)) := (hB2'.cell (p := ⟨g, 0, none⟩) (lt_of_cell HC1.out)).trans HC1.out
  have HM2 : Hid (RecsAt W2 va [x0, z1] ∧ (va = none → mc = 0)) := ⟨hm, hm0⟩
  clear HB1 HL1 HC1 hm hm0 hB2 hB2'
  go_wp2_with fail
  refine (h_drop _ _ _ HM2.out.1 HM2.out.2).mono ?_
  rintro e W3 ⟨da, dc, rfl, hd, hB3⟩
  have HB3 : Hid (RowKit.Below w.heap.size w W3) := Below.on HB2.out hB3
  have HL3 : Hid (RecsAt W3 (some ⟨w.heap.size, 0, none⟩) [x0, x1]) := HL2.out.later hB3
  have HC3 : Hid (W3.cell? ⟨g, 0, none⟩ = some (.int .i64 4)) := (hB3.cell (p := ⟨g, 0, none⟩) (lt_of_cell HC2.out)).trans HC2.out
  have HM3 : Hid (RecsAt W3 va [x0, z1]) := HM2.out.1.later hB3
  have HD3 : Hid (RecsAt W3 da [d0, d1]) := hd
  clear HB2 HL2 HC2 HM2 hd hB3
  go_wp2_with fail
  refine (h_send _ _ HL3.out (by simp)).mono ?_
  rintro e W4 ⟨sa, sc, rfl, hB4⟩
  have HB4 : Hid (RowKit.Below w.heap.size w W4) := Below.on HB3.out hB4
  have hc4 : W4.cell? ⟨g, 0, none⟩ = some (.int .i64 4) := (hB4.cell (p := ⟨g, 0, none⟩) (lt_of_cell HC3.out)).trans HC3.out
  have HM4 : Hid (RecsAt W4 va [x0, z1]) := HM3.out.later hB4
  have HD4 : Hid (RecsAt W4 da [d0, d1]) := HD3.out.later hB4
  clear HB3 HL3 HC3 HM3 HD3 hB4
  go_wp2_with fail
  refine (h_pipe _ _ _ HM4.out).mono ?_
  rintro e W5 ⟨rfl, hB5⟩
  go_wp2_with fail
  refine (h_high _ _ _ (HM4.out.later hB5)).mono ?_
  rintro e W6 ⟨rfl, hB6⟩
  go_wp2_with fail
  refine (h_sacked _ _ _ ((HM4.out.later hB5).later hB6)).mono ?_
  rintro e W7 ⟨rfl, hB7⟩
  go_wp2_with fail
  refine (h_lost _ _ _ (((HD4.out.later hB5).later hB6).later hB7)).mono ?_
  rintro e W8 ⟨rfl, hB8⟩
  go_wp2_with fail
  go_ret
  exact ⟨rfl, Below.on (Below.on (Below.on (Below.on HB4.out hB5) hB6) hB7) hB8⟩
end Go.Proofs.Ytokiklaffbdomaa
