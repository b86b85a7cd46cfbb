/- The contracts of Check, End, checkOpen, Room and part, and of the document's. -/
import Derived.Test.YtehdeebpocjobaaBase
namespace Go.Proofs.Ytehdeebpocjobaa
open Go.ChangeShapes Go.WideShapes Go.ChangeAt Go.RowKit
set_option linter.unusedVariables false

set_option maxRecDepth 100000 in
set_option maxHeartbeats 4000000 in
theorem chk_any (b : Int) (a : Option Addr) (n c : Nat) (k : Int) (q : Bool) (w : World) (hb : I64 b) (hk : I64 k) (hn : n ≤ 140737488351232) :
    Calls Try.prog 13 #[.agg #[.int .i64 b, .slice a n c, .int .i64 k, .bool q]] w fun e w' => e = .returned (.int .i64 (chkI b n k)) ∧ Below w.heap.size w w' := by
  unfold I64 at hb hk
  have HB : Hid (Below w.heap.size w (w.alloc (.cells #[.int .i64 b, .slice a n c, .int .i64 k, .bool q] 24))) := below_more (Below.refl _ _) _
  go_enter Try.func13, Try.ntmps13
  go_wp2
  all_goals go_ret
  all_goals (refine ⟨ret_int ?_, HB.out⟩; unfold chkI okB; simp only [decide_eq_true_eq]; first | (split <;> omega) | (simp_all <;> omega))
theorem chk_is (b : Int) (a : Option Addr) (n c : Nat) (k : Int) (q : Bool) (w : World) (hb : I64 b) (hk : I64 k) (hn : n ≤ 140737488351232) (r : Int) (hr : chkI b n k = r) :
    Calls Try.prog 13 #[.agg #[.int .i64 b, .slice a n c, .int .i64 k, .bool q]] w fun e w' => e = .returned (.int .i64 r) ∧ Below w.heap.size w w' := by
  subst hr; exact chk_any b a n c k q w hb hk hn
set_option maxRecDepth 100000 in
set_option maxHeartbeats 4000000 in
theorem refChk_any (b : Int) (a : Option Addr) (n c : Nat) (k : Int) (q : Bool) (w : World) (hb : I64 b) (hk : I64 k) (hn : n ≤ 140737488351232) :
    Calls Try.prog 14 #[.agg #[.int .i64 b, .slice a n c, .int .i64 k, .bool q]] w fun e w' => e = .returned (.int .i64 (chkI b n k)) ∧ Below w.heap.size w w' := by
  unfold I64 at hb hk
  have HB : Hid (Below w.heap.size w (w.alloc (.cells #[.int .i64 b, .slice a n c, .int .i64 k, .bool q] 24))) := below_more (Below.refl _ _) _
  go_enter Try.func14, Try.ntmps14
  go_wp2
  all_goals go_ret
  all_goals (refine ⟨ret_int ?_, HB.out⟩; unfold chkI okB; simp only [decide_eq_true_eq]; first | (split <;> omega) | (simp_all <;> omega))
theorem refChk_is (b : Int) (a : Option Addr) (n c : Nat) (k : Int) (q : Bool) (w : World) (hb : I64 b) (hk : I64 k) (hn : n ≤ 140737488351232) (r : Int) (hr : chkI b n k = r) :
    Calls Try.prog 14 #[.agg #[.int .i64 b, .slice a n c, .int .i64 k, .bool q]] w fun e w' => e = .returned (.int .i64 r) ∧ Below w.heap.size w w' := by
  subst hr; exact refChk_any b a n c k q w hb hk hn
set_option maxRecDepth 100000 in
set_option maxHeartbeats 4000000 in
theorem end_any (b : Int) (a : Option Addr) (n c : Nat) (k : Int) (q : Bool) (w : World) (hb : I64 b) (hk : I64 k) (hn : n ≤ 140737488351232) :
    Calls Try.prog 15 #[.agg #[.int .i64 b, .slice a n c, .int .i64 k, .bool q]] w fun e w' => e = .returned (.int .i64 (endI b n k)) ∧ Below w.heap.size w w' := by
  have hX := BoxR.new w (.int .i64 b) (.slice a n c) (.int .i64 k) (.bool q)
  have b0 := below_more (Below.refl _ w) (.cells #[.int .i64 b, .slice a n c, .int .i64 k, .bool q] 24)
  cases h : okB b n k with
  | false =>
    have c1 := chk_is b a n c k q (w.alloc (.cells #[.int .i64 b, .slice a n c, .int .i64 k, .bool q] 24)) hb hk hn 2 (by rw [chkI, if_neg (by rw [h]; simp)])
    rw [show endI b n k = 0 from by rw [endI, if_neg (by rw [h]; simp)]]
    have HB : Hid (Below w.heap.size w (w.alloc (.cells #[.int .i64 b, .slice a n c, .int .i64 k, .bool q] 24))) := b0
    clear hX b0 h hb hk
    go_enter Try.func15, Try.ntmps15
    go_wp2_with fail
    refine c1.mono ?_
    rintro e w1 ⟨rfl, hB1⟩
    go_wp2_with fail
    go_ret
    exact ⟨rfl, Below.on HB.out hB1⟩
  | true =>
    have c1 := chk_is b a n c k q (w.alloc (.cells #[.int .i64 b, .slice a n c, .int .i64 k, .bool q] 24)) hb hk hn 0 (by rw [chkI, if_pos h])
    rw [show endI b n k = b + (n : Int) from by rw [endI, if_pos h]]
    have HB : Hid (Below w.heap.size w (w.alloc (.cells #[.int .i64 b, .slice a n c, .int .i64 k, .bool q] 24))) := b0
    have HX : Hid (BoxR (w.alloc (.cells #[.int .i64 b, .slice a n c, .int .i64 k, .bool q] 24)) w.heap.size (.int .i64 b) (.slice a n c) (.int .i64 k) (.bool q)) := hX
    have hh := ok_out h
    clear hX b0 h hb hk
    go_enter Try.func15, Try.ntmps15
    go_wp2_with fail
    refine c1.mono ?_
    rintro e w1 ⟨rfl, hB1⟩
    obtain ⟨k0, k1, k2, k3⟩ := (HX.out.later hB1).cells
    go_wp2_with fail
    go_ret
    exact ⟨ret_int (by omega), Below.on HB.out hB1⟩
theorem end_is (b : Int) (a : Option Addr) (n c : Nat) (k : Int) (q : Bool) (w : World) (hb : I64 b) (hk : I64 k) (hn : n ≤ 140737488351232) (r : Int) (hr : endI b n k = r) :
    Calls Try.prog 15 #[.agg #[.int .i64 b, .slice a n c, .int .i64 k, .bool q]] w fun e w' => e = .returned (.int .i64 r) ∧ Below w.heap.size w w' := by
  subst hr; exact end_any b a n c k q w hb hk hn
set_option maxRecDepth 100000 in
set_option maxHeartbeats 4000000 in
theorem refEnd_any (b : Int) (a : Option Addr) (n c : Nat) (k : Int) (q : Bool) (w : World) (hb : I64 b) (hk : I64 k) (hn : n ≤ 140737488351232) :
    Calls Try.prog 16 #[.agg #[.int .i64 b, .slice a n c, .int .i64 k, .bool q]] w fun e w' => e = .returned (.int .i64 (endI b n k)) ∧ Below w.heap.size w w' := by
  have hX := BoxR.new w (.int .i64 b) (.slice a n c) (.int .i64 k) (.bool q)
  have b0 := below_more (Below.refl _ w) (.cells #[.int .i64 b, .slice a n c, .int .i64 k, .bool q] 24)
  cases h : okB b n k with
  | false =>
    have c1 := refChk_is b a n c k q (w.alloc (.cells #[.int .i64 b, .slice a n c, .int .i64 k, .bool q] 24)) hb hk hn 2 (by rw [chkI, if_neg (by rw [h]; simp)])
    rw [show endI b n k = 0 from by rw [endI, if_neg (by rw [h]; simp)]]
    have HB : Hid (Below w.heap.size w (w.alloc (.cells #[.int .i64 b, .slice a n c, .int .i64 k, .bool q] 24))) := b0
    clear hX b0 h hb hk
    go_enter Try.func16, Try.ntmps16
    go_wp2_with fail
    refine c1.mono ?_
    rintro e w1 ⟨rfl, hB1⟩
    go_wp2_with fail
    go_ret
    exact ⟨rfl, Below.on HB.out hB1⟩
  | true =>
    have c1 := refChk_is b a n c k q (w.alloc (.cells #[.int .i64 b, .slice a n c, .int .i64 k, .bool q] 24)) hb hk hn 0 (by rw [chkI, if_pos h])
    rw [show endI b n k = b + (n : Int) from by rw [endI, if_pos h]]
    have HB : Hid (Below w.heap.size w (w.alloc (.cells #[.int .i64 b, .slice a n c, .int .i64 k, .bool q] 24))) := b0
    have HX : Hid (BoxR (w.alloc (.cells #[.int .i64 b, .slice a n c, .int .i64 k, .bool q] 24)) w.heap.size (.int .i64 b) (.slice a n c) (.int .i64 k) (.bool q)) := hX
    have hh := ok_out h
    clear hX b0 h hb hk
    go_enter Try.func16, Try.ntmps16
    go_wp2_with fail
    refine c1.mono ?_
    rintro e w1 ⟨rfl, hB1⟩
    obtain ⟨k0, k1, k2, k3⟩ := (HX.out.later hB1).cells
    go_wp2_with fail
    go_ret
    exact ⟨ret_int (by omega), Below.on HB.out hB1⟩
theorem refEnd_is (b : Int) (a : Option Addr) (n c : Nat) (k : Int) (q : Bool) (w : World) (hb : I64 b) (hk : I64 k) (hn : n ≤ 140737488351232) (r : Int) (hr : endI b n k = r) :
    Calls Try.prog 16 #[.agg #[.int .i64 b, .slice a n c, .int .i64 k, .bool q]] w fun e w' => e = .returned (.int .i64 r) ∧ Below w.heap.size w w' := by
  subst hr; exact refEnd_any b a n c k q w hb hk hn
set_option maxRecDepth 100000 in
set_option maxHeartbeats 4000000 in
theorem open_any (b : Int) (a : Option Addr) (n c : Nat) (k : Int) (q : Bool) (w : World) (hb : I64 b) (hk : I64 k) (hn : n ≤ 140737488351232) :
    Calls Try.prog 25 #[.agg #[.int .i64 b, .slice a n c, .int .i64 k, .bool q]] w fun e w' => e = .returned (.int .i64 (opnI b n k q)) ∧ Below w.heap.size w w' := by
  have hX := BoxR.new w (.int .i64 b) (.slice a n c) (.int .i64 k) (.bool q)
  have b0 := below_more (Below.refl _ w) (.cells #[.int .i64 b, .slice a n c, .int .i64 k, .bool q] 24)
  cases h : okB b n k with
  | false =>
    have c1 := chk_is b a n c k q (w.alloc (.cells #[.int .i64 b, .slice a n c, .int .i64 k, .bool q] 24)) hb hk hn 2 (by rw [chkI, if_neg (by rw [h]; simp)])
    rw [show opnI b n k q = 2 from by rw [opnI, if_neg (by rw [h]; simp)]]
    have HB : Hid (Below w.heap.size w (w.alloc (.cells #[.int .i64 b, .slice a n c, .int .i64 k, .bool q] 24))) := b0
    clear hX b0 h hb hk
    go_enter Try.func25, Try.ntmps25
    go_wp2_with fail
    refine c1.mono ?_
    rintro e w1 ⟨rfl, hB1⟩
    go_wp2_with fail
    go_ret
    exact ⟨rfl, Below.on HB.out hB1⟩
  | true =>
    have c1 := chk_is b a n c k q (w.alloc (.cells #[.int .i64 b, .slice a n c, .int .i64 k, .bool q] 24)) hb hk hn 0 (by rw [chkI, if_pos h])
    rw [show opnI b n k q = if q = true then 71 else 0 from by rw [opnI, if_pos h]]
    have HB : Hid (Below w.heap.size w (w.alloc (.cells #[.int .i64 b, .slice a n c, .int .i64 k, .bool q] 24))) := b0
    have HX : Hid (BoxR (w.alloc (.cells #[.int .i64 b, .slice a n c, .int .i64 k, .bool q] 24)) w.heap.size (.int .i64 b) (.slice a n c) (.int .i64 k) (.bool q)) := hX
    clear hX b0 h hb hk
    cases q
    all_goals (
      go_enter Try.func25, Try.ntmps25
      go_wp2_with fail
      refine c1.mono ?_
      rintro e w1 ⟨rfl, hB1⟩
      obtain ⟨k0, k1, k2, k3⟩ := (HX.out.later hB1).cells
      go_wp2_with fail
      go_ret
      exact ⟨rfl, Below.on HB.out hB1⟩)
theorem open_is (b : Int) (a : Option Addr) (n c : Nat) (k : Int) (q : Bool) (w : World) (hb : I64 b) (hk : I64 k) (hn : n ≤ 140737488351232) (r : Int) (hr : opnI b n k q = r) :
    Calls Try.prog 25 #[.agg #[.int .i64 b, .slice a n c, .int .i64 k, .bool q]] w fun e w' => e = .returned (.int .i64 r) ∧ Below w.heap.size w w' := by
  subst hr; exact open_any b a n c k q w hb hk hn
set_option maxRecDepth 100000 in
set_option maxHeartbeats 4000000 in
theorem room_any (b : Int) (a : Option Addr) (n c : Nat) (k : Int) (q : Bool) (w : World) (hb : I64 b) (hk : I64 k) (hn : n ≤ 140737488351232) :
    Calls Try.prog 17 #[.agg #[.int .i64 b, .slice a n c, .int .i64 k, .bool q]] w fun e w' => e = .returned (.int .i64 (roomI b n k q)) ∧ Below w.heap.size w w' := by
  cases h : okB b n k with
  | false =>
    rw [show roomI b n k q = 0 from by rw [roomI, if_neg (by rw [h]; simp)]]
    have hX := BoxR.new w (.int .i64 b) (.slice a n c) (.int .i64 k) (.bool q)
    have b0 := below_more (Below.refl _ w) (.cells #[.int .i64 b, .slice a n c, .int .i64 k, .bool q] 24)
    have c1 := open_is b a n c k q (w.alloc (.cells #[.int .i64 b, .slice a n c, .int .i64 k, .bool q] 24)) hb hk hn 2 (by rw [opnI, if_neg (by rw [h]; simp)])
    have HB : Hid (Below w.heap.size w (w.alloc (.cells #[.int .i64 b, .slice a n c, .int .i64 k, .bool q] 24))) := b0
    have HX : Hid (BoxR (w.alloc (.cells #[.int .i64 b, .slice a n c, .int .i64 k, .bool q] 24)) w.heap.size (.int .i64 b) (.slice a n c) (.int .i64 k) (.bool q)) := hX
    clear hX b0
    clear h hb hk
    go_enter Try.func17, Try.ntmps17
    go_wp2_with fail
    refine c1.mono ?_
    rintro e w1 ⟨rfl, hB1⟩
    obtain ⟨k0, k1, k2, k3⟩ := (HX.out.later hB1).cells
    go_wp2_with fail
    go_ret
    exact ⟨rfl, Below.on HB.out hB1⟩
  | true =>
   cases q with
   | true =>
    rw [show roomI b n k true = 0 from by rw [roomI, if_pos h, if_pos rfl]]
    have hX := BoxR.new w (.int .i64 b) (.slice a n c) (.int .i64 k) (.bool true)
    have b0 := below_more (Below.refl _ w) (.cells #[.int .i64 b, .slice a n c, .int .i64 k, .bool true] 24)
    have c1 := open_is b a n c k true (w.alloc (.cells #[.int .i64 b, .slice a n c, .int .i64 k, .bool true] 24)) hb hk hn 71 (by rw [opnI, if_pos h, if_pos rfl])
    have HB : Hid (Below w.heap.size w (w.alloc (.cells #[.int .i64 b, .slice a n c, .int .i64 k, .bool true] 24))) := b0
    have HX : Hid (BoxR (w.alloc (.cells #[.int .i64 b, .slice a n c, .int .i64 k, .bool true] 24)) w.heap.size (.int .i64 b) (.slice a n c) (.int .i64 k) (.bool true)) := hX
    clear hX b0
    clear h hb hk
    go_enter Try.func17, Try.ntmps17
    go_wp2_with fail
    refine c1.mono ?_
    rintro e w1 ⟨rfl, hB1⟩
    obtain ⟨k0, k1, k2, k3⟩ := (HX.out.later hB1).cells
    go_wp2_with fail
    go_ret
    exact ⟨rfl, Below.on HB.out hB1⟩
   | false =>
    obtain ⟨mn, hmn⟩ : ∃ mn, roomI b n k false = mn := ⟨_, rfl⟩
    rw [hmn]
    have hm : (if 1125899906842624 - (b + (n : Int)) < k - (n : Int) then 1125899906842624 - (b + (n : Int)) else k - (n : Int)) = mn := by rw [← hmn]; simp [roomI, h, minI]
    clear hmn
    have hX := BoxR.new w (.int .i64 b) (.slice a n c) (.int .i64 k) (.bool false)
    have b0 := below_more (Below.refl _ w) (.cells #[.int .i64 b, .slice a n c, .int .i64 k, .bool false] 24)
    have c1 := open_is b a n c k false (w.alloc (.cells #[.int .i64 b, .slice a n c, .int .i64 k, .bool false] 24)) hb hk hn 0 (by rw [opnI, if_pos h, if_neg (by simp)])
    have HB : Hid (Below w.heap.size w (w.alloc (.cells #[.int .i64 b, .slice a n c, .int .i64 k, .bool false] 24))) := b0
    have HX : Hid (BoxR (w.alloc (.cells #[.int .i64 b, .slice a n c, .int .i64 k, .bool false] 24)) w.heap.size (.int .i64 b) (.slice a n c) (.int .i64 k) (.bool false)) := hX
    clear hX b0
    have HE : Hid (∀ W, Calls Try.prog 15 #[.agg #[.int .i64 b, .slice a n c, .int .i64 k, .bool false]] W fun e w' => e = .returned (.int .i64 (b + (n : Int))) ∧ Below W.heap.size W w') := fun W => end_is b a n c k false W hb hk hn _ (by rw [endI, if_pos h])
    have hh := ok_out h
    have w1' : IntKind.i64.wrap (k - (n : Int)) = k - (n : Int) := by rw [IntKind.wrap_i64]; omega
    have w2' : IntKind.i64.wrap (1125899906842624 - (b + (n : Int))) = 1125899906842624 - (b + (n : Int)) := by rw [IntKind.wrap_i64]; omega
    clear h hb hk
    go_enter Try.func17, Try.ntmps17
    go_wp2_with fail
    refine c1.mono ?_
    rintro e V ⟨rfl, hB1⟩
    have hX1 := HX.out.later hB1
    have HC : Hid (∀ W, Below V.heap.size V W → W.cell? ⟨w.heap.size, 0, none⟩ = some (.int .i64 b) ∧ W.cell? ⟨w.heap.size, 1, none⟩ = some (.slice a n c) ∧ W.cell? ⟨w.heap.size, 2, none⟩ = some (.int .i64 k) ∧ W.cell? ⟨w.heap.size, 3, none⟩ = some (.bool false)) := fun W hW => (hX1.later hW).cells
    have HB2 : Hid (Below w.heap.size w V) := Below.on HB.out hB1
    obtain ⟨k0, k1, k2, k3⟩ := hX1.cells
    clear c1 hB1 hX1 HB HX
    go_upto_region 3 with fail
    clear k0 k1 k2 k3
    go_region_held3 (fun W => W.cell? ⟨w.heap.size, 0, none⟩ = some (.int .i64 b) ∧ W.cell? ⟨w.heap.size, 1, none⟩ = some (.slice a n c) ∧ W.cell? ⟨w.heap.size, 2, none⟩ = some (.int .i64 k) ∧ W.cell? ⟨w.heap.size, 3, none⟩ = some (.bool false) ∧ Below V.heap.size V W)
      (refine ⟨(HC.out _ ?_).1, (HC.out _ ?_).2.1, (HC.out _ ?_).2.2.1, (HC.out _ ?_).2.2.2, ?_⟩ <;> (repeat (first | with_reducible exact Below.refl _ _ | with_reducible assumption | with_reducible refine Below.drew ?_ | with_reducible refine below_drewN ?_ _ | with_reducible refine below_more ?_ _)))
      (first | (go_at_call 15; refine (HE.out _).mono ?_; rintro e x1 ⟨rfl, hcx1⟩; have hbx1 : Below V.heap.size V x1 := Below.on (by repeat (first | with_reducible exact Below.refl _ _ | with_reducible assumption | with_reducible refine Below.drew ?_ | with_reducible refine below_drewN ?_ _ | with_reducible refine below_more ?_ _)) hcx1))
    go_wp2_with fail
    go_ret
    exact ⟨rfl, Below.on HB2.out (by repeat (first | with_reducible exact Below.refl _ _ | with_reducible assumption | with_reducible refine Below.drew ?_ | with_reducible refine below_drewN ?_ _ | with_reducible refine below_more ?_ _))⟩
theorem room_is (b : Int) (a : Option Addr) (n c : Nat) (k : Int) (q : Bool) (w : World) (hb : I64 b) (hk : I64 k) (hn : n ≤ 140737488351232) (r : Int) (hr : roomI b n k q = r) :
    Calls Try.prog 17 #[.agg #[.int .i64 b, .slice a n c, .int .i64 k, .bool q]] w fun e w' => e = .returned (.int .i64 r) ∧ Below w.heap.size w w' := by
  subst hr; exact room_any b a n c k q w hb hk hn
set_option maxRecDepth 100000 in
set_option maxHeartbeats 4000000 in
theorem refRoom_any (b : Int) (a : Option Addr) (n c : Nat) (k : Int) (q : Bool) (w : World) (hb : I64 b) (hk : I64 k) (hn : n ≤ 140737488351232) :
    Calls Try.prog 18 #[.agg #[.int .i64 b, .slice a n c, .int .i64 k, .bool q]] w fun e w' => e = .returned (.int .i64 (roomI b n k q)) ∧ Below w.heap.size w w' := by
  cases h : okB b n k with
  | false =>
    rw [show roomI b n k q = 0 from by rw [roomI, if_neg (by rw [h]; simp)]]
    have hX := BoxR.new w (.int .i64 b) (.slice a n c) (.int .i64 k) (.bool q)
    have b0 := below_more (Below.refl _ w) (.cells #[.int .i64 b, .slice a n c, .int .i64 k, .bool q] 24)
    have c1 := refChk_is b a n c k q (w.alloc (.cells #[.int .i64 b, .slice a n c, .int .i64 k, .bool q] 24)) hb hk hn 2 (by rw [chkI, if_neg (by rw [h]; simp)])
    have HB : Hid (Below w.heap.size w (w.alloc (.cells #[.int .i64 b, .slice a n c, .int .i64 k, .bool q] 24))) := b0
    have HX : Hid (BoxR (w.alloc (.cells #[.int .i64 b, .slice a n c, .int .i64 k, .bool q] 24)) w.heap.size (.int .i64 b) (.slice a n c) (.int .i64 k) (.bool q)) := hX
    clear hX b0
    clear h hb hk
    go_enter Try.func18, Try.ntmps18
    go_wp2_with fail
    refine c1.mono ?_
    rintro e w1 ⟨rfl, hB1⟩
    obtain ⟨k0, k1, k2, k3⟩ := (HX.out.later hB1).cells
    go_wp2_with fail
    go_ret
    exact ⟨rfl, Below.on HB.out hB1⟩
  | true =>
   cases q with
   | true =>
    rw [show roomI b n k true = 0 from by rw [roomI, if_pos h, if_pos rfl]]
    have hX := BoxR.new w (.int .i64 b) (.slice a n c) (.int .i64 k) (.bool true)
    have b0 := below_more (Below.refl _ w) (.cells #[.int .i64 b, .slice a n c, .int .i64 k, .bool true] 24)
    have c1 := refChk_is b a n c k true (w.alloc (.cells #[.int .i64 b, .slice a n c, .int .i64 k, .bool true] 24)) hb hk hn 0 (by rw [chkI, if_pos h])
    have HB : Hid (Below w.heap.size w (w.alloc (.cells #[.int .i64 b, .slice a n c, .int .i64 k, .bool true] 24))) := b0
    have HX : Hid (BoxR (w.alloc (.cells #[.int .i64 b, .slice a n c, .int .i64 k, .bool true] 24)) w.heap.size (.int .i64 b) (.slice a n c) (.int .i64 k) (.bool true)) := hX
    clear hX b0
    clear h hb hk
    go_enter Try.func18, Try.ntmps18
    go_wp2_with fail
    refine c1.mono ?_
    rintro e w1 ⟨rfl, hB1⟩
    obtain ⟨k0, k1, k2, k3⟩ := (HX.out.later hB1).cells
    go_wp2_with fail
    go_ret
    exact ⟨rfl, Below.on HB.out hB1⟩
   | false =>
    obtain ⟨mn, hmn⟩ : ∃ mn, roomI b n k false = mn := ⟨_, rfl⟩
    rw [hmn]
    have hm : (if 1125899906842624 - (b + (n : Int)) < k - (n : Int) then 1125899906842624 - (b + (n : Int)) else k - (n : Int)) = mn := by rw [← hmn]; simp [roomI, h, minI]
    clear hmn
    have hX := BoxR.new w (.int .i64 b) (.slice a n c) (.int .i64 k) (.bool false)
    have b0 := below_more (Below.refl _ w) (.cells #[.int .i64 b, .slice a n c, .int .i64 k, .bool false] 24)
    have c1 := refChk_is b a n c k false (w.alloc (.cells #[.int .i64 b, .slice a n c, .int .i64 k, .bool false] 24)) hb hk hn 0 (by rw [chkI, if_pos h])
    have HB : Hid (Below w.heap.size w (w.alloc (.cells #[.int .i64 b, .slice a n c, .int .i64 k, .bool false] 24))) := b0
    have HX : Hid (BoxR (w.alloc (.cells #[.int .i64 b, .slice a n c, .int .i64 k, .bool false] 24)) w.heap.size (.int .i64 b) (.slice a n c) (.int .i64 k) (.bool false)) := hX
    clear hX b0
    have HE : Hid (∀ W, Calls Try.prog 16 #[.agg #[.int .i64 b, .slice a n c, .int .i64 k, .bool false]] W fun e w' => e = .returned (.int .i64 (b + (n : Int))) ∧ Below W.heap.size W w') := fun W => refEnd_is b a n c k false W hb hk hn _ (by rw [endI, if_pos h])
    have hh := ok_out h
    have w1' : IntKind.i64.wrap (k - (n : Int)) = k - (n : Int) := by rw [IntKind.wrap_i64]; omega
    have w2' : IntKind.i64.wrap (1125899906842624 - (b + (n : Int))) = 1125899906842624 - (b + (n : Int)) := by rw [IntKind.wrap_i64]; omega
    clear h hb hk
    go_enter Try.func18, Try.ntmps18
    go_wp2_with fail
    refine c1.mono ?_
    rintro e V ⟨rfl, hB1⟩
    have hX1 := HX.out.later hB1
    have HC : Hid (∀ W, Below V.heap.size V W → W.cell? ⟨w.heap.size, 0, none⟩ = some (.int .i64 b) ∧ W.cell? ⟨w.heap.size, 1, none⟩ = some (.slice a n c) ∧ W.cell? ⟨w.heap.size, 2, none⟩ = some (.int .i64 k) ∧ W.cell? ⟨w.heap.size, 3, none⟩ = some (.bool false)) := fun W hW => (hX1.later hW).cells
    have HB2 : Hid (Below w.heap.size w V) := Below.on HB.out hB1
    obtain ⟨k0, k1, k2, k3⟩ := hX1.cells
    clear c1 hB1 hX1 HB HX
    go_upto_region 3 with fail
    clear k0 k1 k2 k3
    go_region_held3 (fun W => W.cell? ⟨w.heap.size, 0, none⟩ = some (.int .i64 b) ∧ W.cell? ⟨w.heap.size, 1, none⟩ = some (.slice a n c) ∧ W.cell? ⟨w.heap.size, 2, none⟩ = some (.int .i64 k) ∧ W.cell? ⟨w.heap.size, 3, none⟩ = some (.bool false) ∧ Below V.heap.size V W)
      (refine ⟨(HC.out _ ?_).1, (HC.out _ ?_).2.1, (HC.out _ ?_).2.2.1, (HC.out _ ?_).2.2.2, ?_⟩ <;> (repeat (first | with_reducible exact Below.refl _ _ | with_reducible assumption | with_reducible refine Below.drew ?_ | with_reducible refine below_drewN ?_ _ | with_reducible refine below_more ?_ _)))
      (first | (go_at_call 16; refine (HE.out _).mono ?_; rintro e x1 ⟨rfl, hcx1⟩; have hbx1 : Below V.heap.size V x1 := Below.on (by repeat (first | with_reducible exact Below.refl _ _ | with_reducible assumption | with_reducible refine Below.drew ?_ | with_reducible refine below_drewN ?_ _ | with_reducible refine below_more ?_ _)) hcx1))
    go_wp2_with fail
    go_ret
    exact ⟨rfl, Below.on HB2.out (by repeat (first | with_reducible exact Below.refl _ _ | with_reducible assumption | with_reducible refine Below.drew ?_ | with_reducible refine below_drewN ?_ _ | with_reducible refine below_more ?_ _))⟩
theorem refRoom_is (b : Int) (a : Option Addr) (n c : Nat) (k : Int) (q : Bool) (w : World) (hb : I64 b) (hk : I64 k) (hn : n ≤ 140737488351232) (r : Int) (hr : roomI b n k q = r) :
    Calls Try.prog 18 #[.agg #[.int .i64 b, .slice a n c, .int .i64 k, .bool q]] w fun e w' => e = .returned (.int .i64 r) ∧ Below w.heap.size w w' := by
  subst hr; exact refRoom_any b a n c k q w hb hk hn
theorem part_any (a : Option Addr) (n c f t : Nat) (fi ti : Int) (hf : fi = (f : Int)) (ht : ti = (t : Int)) (h : f ≤ t) (h2 : t ≤ c) (w : World) (A : Option Addr) (hA : cutB a t f = A) (m : Nat) (hm : t - f = m) :
    Calls Try.prog 27 #[.slice a n c, .int .i64 fi, .int .i64 ti] w fun e w' => e = .returned (.slice A m m) ∧ w' = w := by
  have e1 := sl_lhm a n c f t fi ti hf ht h h2
  rw [hA, hm] at e1
  clear hf ht h h2 hA hm
  go_enter Try.func27, Try.ntmps27
  go_wp2_with fail
  go_ret
  exact ⟨rfl, rfl⟩
end Go.Proofs.Ytehdeebpocjobaa
