/- The walk of SpanHas. -/
import Derived.Test.YtiigipfcagmgnaaFindsWalk
namespace Go.Proofs.Ytiigipfcagmgnaa
open Go.ChangeShapes Go.WideShapes Go.ChangeAt Go.RowKit Go.Shelf
set_option linter.unusedVariables false

theorem findV_has {l : List Tm} {o : Int} (h : chk (-1) l = true) : (findV l o).isSome = true ↔ Has l o := by
  unfold findV; rw [if_pos h]; exact find_has
theorem findV_is {l : List Tm} {o : Int} (h : chk (-1) l = true) (b : Bool) (hb : b = true ↔ Has l o) : (findV l o).isSome = b := Bool.eq_iff_iff.2 ((findV_has h).trans hb.symm)
theorem covers_added {l : List Tm} {s : Tm} (h : chk (-1) l = true) (hr : rightB s = true) : coversV (addV l s) s = true := by
  unfold coversV
  rw [addV_chk h hr, gaps_empty (addV_chk h hr) (fun o h1 h2 => (addV_has h hr).2 (.inl ⟨h1, h2⟩))]; rfl

set_option maxRecDepth 100000 in
set_option maxHeartbeats 4000000 in
/-- A row or a span that may not be. -/
theorem has_not (A : Option Addr) (cap : Nat) (ts : List Tm) (s : Tm) (o : Int) (w : World) (hT : Got w A cap ts) (hok : ¬ (chk (-1) ts = true ∧ rightB s = true)) :
    Calls Try.prog 6 #[.slice A ts.length cap, tmV s, .int .i64 o] w fun e w' => e = .returned (.bool true) ∧ Below w.heap.size w w' := by
  have hB0 : Below w.heap.size w (w.alloc (.cells #[.int .i64 s.1, .int .i64 s.2] 24)) := (Below.refl _ w).alloc (Nat.le_refl _) _
  have bS := BoxT.new w s
  have cC := check_any A cap ts _ (hT.later hB0).1
  cases hc : chk (-1) ts with
  | false =>
    have hE : errI ts = 60 := by simp [errI, hc]
    rw [hE] at cC
    clear hE hc hok
    go_enter Try.func6, Try.ntmps6
    go_wp2_with (first | (go_at_call 18; refine cC.mono ?_; rintro e w1 ⟨rfl, hB1⟩) | (go_at_call 11; refine (heads_any _).mono ?_; rintro e w2 ⟨rfl, hB2⟩))
    go_ret
    exact ⟨rfl, below_next (below_next hB0 hB1) hB2⟩
  | true =>
    have hE : errI ts = 0 := by simp [errI, hc]
    have hnr : ¬ rightB s = true := fun h => hok ⟨hc, h⟩
    rw [rightB_iff] at hnr
    rw [hE] at cC
    clear hE hc hok
    by_cases h1 : s.1 < 0
    · clear hnr
      go_enter Try.func6, Try.ntmps6
      go_wp2_with (first | (go_at_call 18; refine cC.mono ?_; rintro e w1 ⟨rfl, hB1⟩; have bS1 := bS.on hB1; have s0 := bS1.cell0; have s1 := bS1.cell1) | (go_at_call 11; refine (heads_any _).mono ?_; rintro e w2 ⟨rfl, hB2⟩))
      go_ret
      exact ⟨rfl, below_next (below_next hB0 hB1) hB2⟩
    · by_cases h2 : s.2 < s.1
      · clear hnr
        go_enter Try.func6, Try.ntmps6
        go_wp2_with (first | (go_at_call 18; refine cC.mono ?_; rintro e w1 ⟨rfl, hB1⟩; have bS1 := bS.on hB1; have s0 := bS1.cell0; have s1 := bS1.cell1) | (go_at_call 11; refine (heads_any _).mono ?_; rintro e w2 ⟨rfl, hB2⟩))
        go_ret
        exact ⟨rfl, below_next (below_next hB0 hB1) hB2⟩
      · have h3 : 1125899906842624 < s.2 := by omega
        clear hnr
        go_enter Try.func6, Try.ntmps6
        go_wp2_with (first | (go_at_call 18; refine cC.mono ?_; rintro e w1 ⟨rfl, hB1⟩; have bS1 := bS.on hB1; have s0 := bS1.cell0; have s1 := bS1.cell1) | (go_at_call 11; refine (heads_any _).mono ?_; rintro e w2 ⟨rfl, hB2⟩))
        go_ret
        exact ⟨rfl, below_next (below_next hB0 hB1) hB2⟩

/-- What is known ahead of the walk: all answers. -/
structure HasIs (ts : List Tm) (s : Tm) (o : Int) (n : Nat) (S : List Tm) (m : Nat) (C : List Tm) (p : Nat) (was ha hc : Bool) : Prop where
  qn : ts.length = n
  qS : addV ts s = S
  qm : S.length = m
  qC : cutV ts s = C
  qp : C.length = p
  qe : bothI ts s = 0
  qwas : (findV ts o).isSome = was
  qha : (findV S o).isSome = ha
  qhc : (findV C o).isSome = hc
  qeS : errI S = 0
  qeC : errI C = 0
  qcov : coversV S s = true
  qet : errI ts = 0

set_option maxRecDepth 100000 in
set_option maxHeartbeats 4000000 in
theorem has_walk_int (A : Option Addr) (cap : Nat) (ts : List Tm) (s : Tm) (o : Int) (w : World) (hT : Got w A cap ts) (n m p : Nat) (S C : List Tm) (hr : n * 16 ≤ 140737488351232) (hs1 : 0 ≤ s.1) (hs2 : s.1 ≤ s.2) (hs3 : s.2 ≤ 1125899906842624)
    (h1 : s.1 ≤ o) (h2 : o < s.2) (H : HasIs ts s o n S m C p true true false) :
    Calls Try.prog 6 #[.slice A n cap, tmV s, .int .i64 o] w fun e w' => e = .returned (.bool true) ∧ Below w.heap.size w w' := by
  have hB0 : Below w.heap.size w (w.alloc (.cells #[.int .i64 s.1, .int .i64 s.2] 24)) := (Below.refl _ w).alloc (Nat.le_refl _) _
  have bS := BoxT.new w s
  have HT : Hid (Got w A cap ts) := hT
  have HH : Hid (HasIs ts s o n S m C p true true false) := H
  have c0 := check_is A cap ts _ (hT.later hB0) n H.qn 0 H.qet
  have HB0 : Hid (Below w.heap.size w (w.alloc (.cells #[.int .i64 s.1, .int .i64 s.2] 24))) := hB0
  have HX : Hid (BoxT (w.alloc (.cells #[.int .i64 s.1, .int .i64 s.2] 24)) w.heap.size s) := bS
  clear hT H hB0 bS
  go_enter Try.func6, Try.ntmps6
  go_wp2_with fail
  refine c0.mono ?_
  rintro e w0 ⟨rfl, hB1⟩
  have HB1 : Hid (Below w.heap.size w w0) := below_next HB0.out hB1
  have HX1 : Hid (BoxT w0 w.heap.size s) := HX.out.on hB1
  have k0 := HX1.out.cell0
  have k1 := HX1.out.cell1
  have c1 := add_fin A cap ts s w0 (HT.out.later HB1.out) n HH.out.qn (by omega) S HH.out.qS m HH.out.qm 0 HH.out.qe
  clear c0 hB1 HB0 HX
  go_wp2_with fail
  refine c1.mono ?_
  rintro e w1 ⟨va1, vc1, rfl, hT1, hB2⟩
  have HB2 : Hid (Below w.heap.size w w1) := below_next HB1.out hB2
  have HX2 : Hid (BoxT w1 w.heap.size s) := HX1.out.on hB2
  have HT2 : Hid (Got w1 va1 vc1 S) := hT1
  have k2 := HX2.out.cell0
  have k3 := HX2.out.cell1
  have c2 := cut_fin A cap ts s w1 (HT.out.later HB2.out) n HH.out.qn (by omega) C HH.out.qC p HH.out.qp 0 HH.out.qe
  clear c1 hB2 hT1 HB1 HX1 k0 k1
  go_wp2_with fail
  refine c2.mono ?_
  rintro e w2 ⟨va2, vc2, rfl, hT3, hB3⟩
  have HB3 : Hid (Below w.heap.size w w2) := below_next HB2.out hB3
  have HX3 : Hid (BoxT w2 w.heap.size s) := HX2.out.on hB3
  have HT3 : Hid (Got w2 va1 vc1 S ∧ Got w2 va2 vc2 C) := ⟨HT2.out.later hB3, hT3⟩
  have k4 := HX3.out.cell0
  have k5 := HX3.out.cell1
  have c3 := has_is A cap ts o w2 (HT.out.later HB3.out) n HH.out.qn true HH.out.qwas
  clear c2 hB3 hT3 HB2 HX2 HT2 k2 k3
  go_wp2_with fail
  refine c3.mono ?_
  rintro e w3 ⟨rfl, hB4⟩
  have HB4 : Hid (Below w.heap.size w w3) := below_next HB3.out hB4
  have HX4 : Hid (BoxT w3 w.heap.size s) := HX3.out.on hB4
  have HT4 : Hid (Got w3 va1 vc1 S ∧ Got w3 va2 vc2 C) := ⟨HT3.out.1.later hB4, HT3.out.2.later hB4⟩
  have c4 := has_is va1 vc1 S o w3 HT4.out.1 m HH.out.qm true HH.out.qha
  clear c3 hB4 HB3 HX3 HT3 k4 k5
  go_wp2_with fail
  refine c4.mono ?_
  rintro e w4 ⟨rfl, hB5⟩
  have HB5 : Hid (Below w.heap.size w w4) := below_next HB4.out hB5
  have HX5 : Hid (BoxT w4 w.heap.size s) := HX4.out.on hB5
  have HT5 : Hid (Got w4 va1 vc1 S ∧ Got w4 va2 vc2 C) := ⟨HT4.out.1.later hB5, HT4.out.2.later hB5⟩
  have c5 := has_is va2 vc2 C o w4 HT5.out.2 p HH.out.qp false HH.out.qhc
  clear c4 hB5 HB4 HX4 HT4
  go_wp2_with fail
  refine c5.mono ?_
  rintro e w5 ⟨rfl, hB6⟩
  have HB6 : Hid (Below w.heap.size w w5) := below_next HB5.out hB6
  have HX6 : Hid (BoxT w5 w.heap.size s) := HX5.out.on hB6
  have HT6 : Hid (Got w5 va1 vc1 S ∧ Got w5 va2 vc2 C) := ⟨HT5.out.1.later hB6, HT5.out.2.later hB6⟩
  have c6 := check_is va1 vc1 S w5 HT6.out.1 m HH.out.qm 0 HH.out.qeS
  clear c5 hB6 HB5 HX5 HT5
  go_wp2_with fail
  refine c6.mono ?_
  rintro e w6 ⟨rfl, hB7⟩
  have HB7 : Hid (Below w.heap.size w w6) := below_next HB6.out hB7
  have HX7 : Hid (BoxT w6 w.heap.size s) := HX6.out.on hB7
  have HT7 : Hid (Got w6 va1 vc1 S ∧ Got w6 va2 vc2 C) := ⟨HT6.out.1.later hB7, HT6.out.2.later hB7⟩
  have c7 := check_is va2 vc2 C w6 HT7.out.2 p HH.out.qp 0 HH.out.qeC
  clear c6 hB7 HB6 HX6 HT6
  go_wp2_with fail
  refine c7.mono ?_
  rintro e w7 ⟨rfl, hB8⟩
  have HB8 : Hid (Below w.heap.size w w7) := below_next HB7.out hB8
  have HX8 : Hid (BoxT w7 w.heap.size s) := HX7.out.on hB8
  have k6 := HX8.out.cell0
  have k7 := HX8.out.cell1
  have c8 := covers_is va1 vc1 S s w7 (HT7.out.1.later hB8) m HH.out.qm true HH.out.qcov
  clear c7 hB8 HB7 HX7 HT7
  go_wp2_with fail
  refine c8.mono ?_
  rintro e w8 ⟨rfl, hB9⟩
  have HB9 : Hid (Below w.heap.size w w8) := below_next HB8.out hB9
  clear c8 hB9 HB8 HX8 k6 k7
  go_wp2_with (go_at_call 11; refine (heads_any _).mono ?_; rintro e w9 ⟨rfl, hB10⟩)
  go_ret
  exact ⟨rfl, below_next HB9.out hB10⟩

set_option maxRecDepth 100000 in
set_option maxHeartbeats 4000000 in
theorem has_walk_inf (A : Option Addr) (cap : Nat) (ts : List Tm) (s : Tm) (o : Int) (w : World) (hT : Got w A cap ts) (n m p : Nat) (S C : List Tm) (hr : n * 16 ≤ 140737488351232) (hs1 : 0 ≤ s.1) (hs2 : s.1 ≤ s.2) (hs3 : s.2 ≤ 1125899906842624)
    (h1 : s.1 ≤ o) (h2 : o < s.2) (H : HasIs ts s o n S m C p false true false) :
    Calls Try.prog 6 #[.slice A n cap, tmV s, .int .i64 o] w fun e w' => e = .returned (.bool true) ∧ Below w.heap.size w w' := by
  have hB0 : Below w.heap.size w (w.alloc (.cells #[.int .i64 s.1, .int .i64 s.2] 24)) := (Below.refl _ w).alloc (Nat.le_refl _) _
  have bS := BoxT.new w s
  have HT : Hid (Got w A cap ts) := hT
  have HH : Hid (HasIs ts s o n S m C p false true false) := H
  have c0 := check_is A cap ts _ (hT.later hB0) n H.qn 0 H.qet
  have HB0 : Hid (Below w.heap.size w (w.alloc (.cells #[.int .i64 s.1, .int .i64 s.2] 24))) := hB0
  have HX : Hid (BoxT (w.alloc (.cells #[.int .i64 s.1, .int .i64 s.2] 24)) w.heap.size s) := bS
  clear hT H hB0 bS
  go_enter Try.func6, Try.ntmps6
  go_wp2_with fail
  refine c0.mono ?_
  rintro e w0 ⟨rfl, hB1⟩
  have HB1 : Hid (Below w.heap.size w w0) := below_next HB0.out hB1
  have HX1 : Hid (BoxT w0 w.heap.size s) := HX.out.on hB1
  have k0 := HX1.out.cell0
  have k1 := HX1.out.cell1
  have c1 := add_fin A cap ts s w0 (HT.out.later HB1.out) n HH.out.qn (by omega) S HH.out.qS m HH.out.qm 0 HH.out.qe
  clear c0 hB1 HB0 HX
  go_wp2_with fail
  refine c1.mono ?_
  rintro e w1 ⟨va1, vc1, rfl, hT1, hB2⟩
  have HB2 : Hid (Below w.heap.size w w1) := below_next HB1.out hB2
  have HX2 : Hid (BoxT w1 w.heap.size s) := HX1.out.on hB2
  have HT2 : Hid (Got w1 va1 vc1 S) := hT1
  have k2 := HX2.out.cell0
  have k3 := HX2.out.cell1
  have c2 := cut_fin A cap ts s w1 (HT.out.later HB2.out) n HH.out.qn (by omega) C HH.out.qC p HH.out.qp 0 HH.out.qe
  clear c1 hB2 hT1 HB1 HX1 k0 k1
  go_wp2_with fail
  refine c2.mono ?_
  rintro e w2 ⟨va2, vc2, rfl, hT3, hB3⟩
  have HB3 : Hid (Below w.heap.size w w2) := below_next HB2.out hB3
  have HX3 : Hid (BoxT w2 w.heap.size s) := HX2.out.on hB3
  have HT3 : Hid (Got w2 va1 vc1 S ∧ Got w2 va2 vc2 C) := ⟨HT2.out.later hB3, hT3⟩
  have k4 := HX3.out.cell0
  have k5 := HX3.out.cell1
  have c3 := has_is A cap ts o w2 (HT.out.later HB3.out) n HH.out.qn false HH.out.qwas
  clear c2 hB3 hT3 HB2 HX2 HT2 k2 k3
  go_wp2_with fail
  refine c3.mono ?_
  rintro e w3 ⟨rfl, hB4⟩
  have HB4 : Hid (Below w.heap.size w w3) := below_next HB3.out hB4
  have HX4 : Hid (BoxT w3 w.heap.size s) := HX3.out.on hB4
  have HT4 : Hid (Got w3 va1 vc1 S ∧ Got w3 va2 vc2 C) := ⟨HT3.out.1.later hB4, HT3.out.2.later hB4⟩
  have c4 := has_is va1 vc1 S o w3 HT4.out.1 m HH.out.qm true HH.out.qha
  clear c3 hB4 HB3 HX3 HT3 k4 k5
  go_wp2_with fail
  refine c4.mono ?_
  rintro e w4 ⟨rfl, hB5⟩
  have HB5 : Hid (Below w.heap.size w w4) := below_next HB4.out hB5
  have HX5 : Hid (BoxT w4 w.heap.size s) := HX4.out.on hB5
  have HT5 : Hid (Got w4 va1 vc1 S ∧ Got w4 va2 vc2 C) := ⟨HT4.out.1.later hB5, HT4.out.2.later hB5⟩
  have c5 := has_is va2 vc2 C o w4 HT5.out.2 p HH.out.qp false HH.out.qhc
  clear c4 hB5 HB4 HX4 HT4
  go_wp2_with fail
  refine c5.mono ?_
  rintro e w5 ⟨rfl, hB6⟩
  have HB6 : Hid (Below w.heap.size w w5) := below_next HB5.out hB6
  have HX6 : Hid (BoxT w5 w.heap.size s) := HX5.out.on hB6
  have HT6 : Hid (Got w5 va1 vc1 S ∧ Got w5 va2 vc2 C) := ⟨HT5.out.1.later hB6, HT5.out.2.later hB6⟩
  have c6 := check_is va1 vc1 S w5 HT6.out.1 m HH.out.qm 0 HH.out.qeS
  clear c5 hB6 HB5 HX5 HT5
  go_wp2_with fail
  refine c6.mono ?_
  rintro e w6 ⟨rfl, hB7⟩
  have HB7 : Hid (Below w.heap.size w w6) := below_next HB6.out hB7
  have HX7 : Hid (BoxT w6 w.heap.size s) := HX6.out.on hB7
  have HT7 : Hid (Got w6 va1 vc1 S ∧ Got w6 va2 vc2 C) := ⟨HT6.out.1.later hB7, HT6.out.2.later hB7⟩
  have c7 := check_is va2 vc2 C w6 HT7.out.2 p HH.out.qp 0 HH.out.qeC
  clear c6 hB7 HB6 HX6 HT6
  go_wp2_with fail
  refine c7.mono ?_
  rintro e w7 ⟨rfl, hB8⟩
  have HB8 : Hid (Below w.heap.size w w7) := below_next HB7.out hB8
  have HX8 : Hid (BoxT w7 w.heap.size s) := HX7.out.on hB8
  have k6 := HX8.out.cell0
  have k7 := HX8.out.cell1
  have c8 := covers_is va1 vc1 S s w7 (HT7.out.1.later hB8) m HH.out.qm true HH.out.qcov
  clear c7 hB8 HB7 HX7 HT7
  go_wp2_with fail
  refine c8.mono ?_
  rintro e w8 ⟨rfl, hB9⟩
  have HB9 : Hid (Below w.heap.size w w8) := below_next HB8.out hB9
  clear c8 hB9 HB8 HX8 k6 k7
  go_wp2_with (go_at_call 11; refine (heads_any _).mono ?_; rintro e w9 ⟨rfl, hB10⟩)
  go_ret
  exact ⟨rfl, below_next HB9.out hB10⟩

set_option maxRecDepth 100000 in
set_option maxHeartbeats 4000000 in
theorem has_walk_lot (A : Option Addr) (cap : Nat) (ts : List Tm) (s : Tm) (o : Int) (w : World) (hT : Got w A cap ts) (n m p : Nat) (S C : List Tm) (hr : n * 16 ≤ 140737488351232) (hs1 : 0 ≤ s.1) (hs2 : s.1 ≤ s.2) (hs3 : s.2 ≤ 1125899906842624)
    (h1 : o < s.1) (H : HasIs ts s o n S m C p true true true) :
    Calls Try.prog 6 #[.slice A n cap, tmV s, .int .i64 o] w fun e w' => e = .returned (.bool true) ∧ Below w.heap.size w w' := by
  have hB0 : Below w.heap.size w (w.alloc (.cells #[.int .i64 s.1, .int .i64 s.2] 24)) := (Below.refl _ w).alloc (Nat.le_refl _) _
  have bS := BoxT.new w s
  have HT : Hid (Got w A cap ts) := hT
  have HH : Hid (HasIs ts s o n S m C p true true true) := H
  have c0 := check_is A cap ts _ (hT.later hB0) n H.qn 0 H.qet
  have HB0 : Hid (Below w.heap.size w (w.alloc (.cells #[.int .i64 s.1, .int .i64 s.2] 24))) := hB0
  have HX : Hid (BoxT (w.alloc (.cells #[.int .i64 s.1, .int .i64 s.2] 24)) w.heap.size s) := bS
  clear hT H hB0 bS
  go_enter Try.func6, Try.ntmps6
  go_wp2_with fail
  refine c0.mono ?_
  rintro e w0 ⟨rfl, hB1⟩
  have HB1 : Hid (Below w.heap.size w w0) := below_next HB0.out hB1
  have HX1 : Hid (BoxT w0 w.heap.size s) := HX.out.on hB1
  have k0 := HX1.out.cell0
  have k1 := HX1.out.cell1
  have c1 := add_fin A cap ts s w0 (HT.out.later HB1.out) n HH.out.qn (by omega) S HH.out.qS m HH.out.qm 0 HH.out.qe
  clear c0 hB1 HB0 HX
  go_wp2_with fail
  refine c1.mono ?_
  rintro e w1 ⟨va1, vc1, rfl, hT1, hB2⟩
  have HB2 : Hid (Below w.heap.size w w1) := below_next HB1.out hB2
  have HX2 : Hid (BoxT w1 w.heap.size s) := HX1.out.on hB2
  have HT2 : Hid (Got w1 va1 vc1 S) := hT1
  have k2 := HX2.out.cell0
  have k3 := HX2.out.cell1
  have c2 := cut_fin A cap ts s w1 (HT.out.later HB2.out) n HH.out.qn (by omega) C HH.out.qC p HH.out.qp 0 HH.out.qe
  clear c1 hB2 hT1 HB1 HX1 k0 k1
  go_wp2_with fail
  refine c2.mono ?_
  rintro e w2 ⟨va2, vc2, rfl, hT3, hB3⟩
  have HB3 : Hid (Below w.heap.size w w2) := below_next HB2.out hB3
  have HX3 : Hid (BoxT w2 w.heap.size s) := HX2.out.on hB3
  have HT3 : Hid (Got w2 va1 vc1 S ∧ Got w2 va2 vc2 C) := ⟨HT2.out.later hB3, hT3⟩
  have k4 := HX3.out.cell0
  have k5 := HX3.out.cell1
  have c3 := has_is A cap ts o w2 (HT.out.later HB3.out) n HH.out.qn true HH.out.qwas
  clear c2 hB3 hT3 HB2 HX2 HT2 k2 k3
  go_wp2_with fail
  refine c3.mono ?_
  rintro e w3 ⟨rfl, hB4⟩
  have HB4 : Hid (Below w.heap.size w w3) := below_next HB3.out hB4
  have HX4 : Hid (BoxT w3 w.heap.size s) := HX3.out.on hB4
  have HT4 : Hid (Got w3 va1 vc1 S ∧ Got w3 va2 vc2 C) := ⟨HT3.out.1.later hB4, HT3.out.2.later hB4⟩
  have c4 := has_is va1 vc1 S o w3 HT4.out.1 m HH.out.qm true HH.out.qha
  clear c3 hB4 HB3 HX3 HT3 k4 k5
  go_wp2_with fail
  refine c4.mono ?_
  rintro e w4 ⟨rfl, hB5⟩
  have HB5 : Hid (Below w.heap.size w w4) := below_next HB4.out hB5
  have HX5 : Hid (BoxT w4 w.heap.size s) := HX4.out.on hB5
  have HT5 : Hid (Got w4 va1 vc1 S ∧ Got w4 va2 vc2 C) := ⟨HT4.out.1.later hB5, HT4.out.2.later hB5⟩
  have c5 := has_is va2 vc2 C o w4 HT5.out.2 p HH.out.qp true HH.out.qhc
  clear c4 hB5 HB4 HX4 HT4
  go_wp2_with fail
  refine c5.mono ?_
  rintro e w5 ⟨rfl, hB6⟩
  have HB6 : Hid (Below w.heap.size w w5) := below_next HB5.out hB6
  have HX6 : Hid (BoxT w5 w.heap.size s) := HX5.out.on hB6
  have HT6 : Hid (Got w5 va1 vc1 S ∧ Got w5 va2 vc2 C) := ⟨HT5.out.1.later hB6, HT5.out.2.later hB6⟩
  have c6 := check_is va1 vc1 S w5 HT6.out.1 m HH.out.qm 0 HH.out.qeS
  clear c5 hB6 HB5 HX5 HT5
  go_wp2_with fail
  refine c6.mono ?_
  rintro e w6 ⟨rfl, hB7⟩
  have HB7 : Hid (Below w.heap.size w w6) := below_next HB6.out hB7
  have HX7 : Hid (BoxT w6 w.heap.size s) := HX6.out.on hB7
  have HT7 : Hid (Got w6 va1 vc1 S ∧ Got w6 va2 vc2 C) := ⟨HT6.out.1.later hB7, HT6.out.2.later hB7⟩
  have c7 := check_is va2 vc2 C w6 HT7.out.2 p HH.out.qp 0 HH.out.qeC
  clear c6 hB7 HB6 HX6 HT6
  go_wp2_with fail
  refine c7.mono ?_
  rintro e w7 ⟨rfl, hB8⟩
  have HB8 : Hid (Below w.heap.size w w7) := below_next HB7.out hB8
  have HX8 : Hid (BoxT w7 w.heap.size s) := HX7.out.on hB8
  have k6 := HX8.out.cell0
  have k7 := HX8.out.cell1
  have c8 := covers_is va1 vc1 S s w7 (HT7.out.1.later hB8) m HH.out.qm true HH.out.qcov
  clear c7 hB8 HB7 HX7 HT7
  go_wp2_with fail
  refine c8.mono ?_
  rintro e w8 ⟨rfl, hB9⟩
  have HB9 : Hid (Below w.heap.size w w8) := below_next HB8.out hB9
  clear c8 hB9 HB8 HX8 k6 k7
  go_wp2_with (go_at_call 11; refine (heads_any _).mono ?_; rintro e w9 ⟨rfl, hB10⟩)
  go_ret
  exact ⟨rfl, below_next HB9.out hB10⟩

set_option maxRecDepth 100000 in
set_option maxHeartbeats 4000000 in
theorem has_walk_lof (A : Option Addr) (cap : Nat) (ts : List Tm) (s : Tm) (o : Int) (w : World) (hT : Got w A cap ts) (n m p : Nat) (S C : List Tm) (hr : n * 16 ≤ 140737488351232) (hs1 : 0 ≤ s.1) (hs2 : s.1 ≤ s.2) (hs3 : s.2 ≤ 1125899906842624)
    (h1 : o < s.1) (H : HasIs ts s o n S m C p false false false) :
    Calls Try.prog 6 #[.slice A n cap, tmV s, .int .i64 o] w fun e w' => e = .returned (.bool true) ∧ Below w.heap.size w w' := by
  have hB0 : Below w.heap.size w (w.alloc (.cells #[.int .i64 s.1, .int .i64 s.2] 24)) := (Below.refl _ w).alloc (Nat.le_refl _) _
  have bS := BoxT.new w s
  have HT : Hid (Got w A cap ts) := hT
  have HH : Hid (HasIs ts s o n S m C p false false false) := H
  have c0 := check_is A cap ts _ (hT.later hB0) n H.qn 0 H.qet
  have HB0 : Hid (Below w.heap.size w (w.alloc (.cells #[.int .i64 s.1, .int .i64 s.2] 24))) := hB0
  have HX : Hid (BoxT (w.alloc (.cells #[.int .i64 s.1, .int .i64 s.2] 24)) w.heap.size s) := bS
  clear hT H hB0 bS
  go_enter Try.func6, Try.ntmps6
  go_wp2_with fail
  refine c0.mono ?_
  rintro e w0 ⟨rfl, hB1⟩
  have HB1 : Hid (Below w.heap.size w w0) := below_next HB0.out hB1
  have HX1 : Hid (BoxT w0 w.heap.size s) := HX.out.on hB1
  have k0 := HX1.out.cell0
  have k1 := HX1.out.cell1
  have c1 := add_fin A cap ts s w0 (HT.out.later HB1.out) n HH.out.qn (by omega) S HH.out.qS m HH.out.qm 0 HH.out.qe
  clear c0 hB1 HB0 HX
  go_wp2_with fail
  refine c1.mono ?_
  rintro e w1 ⟨va1, vc1, rfl, hT1, hB2⟩
  have HB2 : Hid (Below w.heap.size w w1) := below_next HB1.out hB2
  have HX2 : Hid (BoxT w1 w.heap.size s) := HX1.out.on hB2
  have HT2 : Hid (Got w1 va1 vc1 S) := hT1
  have k2 := HX2.out.cell0
  have k3 := HX2.out.cell1
  have c2 := cut_fin A cap ts s w1 (HT.out.later HB2.out) n HH.out.qn (by omega) C HH.out.qC p HH.out.qp 0 HH.out.qe
  clear c1 hB2 hT1 HB1 HX1 k0 k1
  go_wp2_with fail
  refine c2.mono ?_
  rintro e w2 ⟨va2, vc2, rfl, hT3, hB3⟩
  have HB3 : Hid (Below w.heap.size w w2) := below_next HB2.out hB3
  have HX3 : Hid (BoxT w2 w.heap.size s) := HX2.out.on hB3
  have HT3 : Hid (Got w2 va1 vc1 S ∧ Got w2 va2 vc2 C) := ⟨HT2.out.later hB3, hT3⟩
  have k4 := HX3.out.cell0
  have k5 := HX3.out.cell1
  have c3 := has_is A cap ts o w2 (HT.out.later HB3.out) n HH.out.qn false HH.out.qwas
  clear c2 hB3 hT3 HB2 HX2 HT2 k2 k3
  go_wp2_with fail
  refine c3.mono ?_
  rintro e w3 ⟨rfl, hB4⟩
  have HB4 : Hid (Below w.heap.size w w3) := below_next HB3.out hB4
  have HX4 : Hid (BoxT w3 w.heap.size s) := HX3.out.on hB4
  have HT4 : Hid (Got w3 va1 vc1 S ∧ Got w3 va2 vc2 C) := ⟨HT3.out.1.later hB4, HT3.out.2.later hB4⟩
  have c4 := has_is va1 vc1 S o w3 HT4.out.1 m HH.out.qm false HH.out.qha
  clear c3 hB4 HB3 HX3 HT3 k4 k5
  go_wp2_with fail
  refine c4.mono ?_
  rintro e w4 ⟨rfl, hB5⟩
  have HB5 : Hid (Below w.heap.size w w4) := below_next HB4.out hB5
  have HX5 : Hid (BoxT w4 w.heap.size s) := HX4.out.on hB5
  have HT5 : Hid (Got w4 va1 vc1 S ∧ Got w4 va2 vc2 C) := ⟨HT4.out.1.later hB5, HT4.out.2.later hB5⟩
  have c5 := has_is va2 vc2 C o w4 HT5.out.2 p HH.out.qp false HH.out.qhc
  clear c4 hB5 HB4 HX4 HT4
  go_wp2_with fail
  refine c5.mono ?_
  rintro e w5 ⟨rfl, hB6⟩
  have HB6 : Hid (Below w.heap.size w w5) := below_next HB5.out hB6
  have HX6 : Hid (BoxT w5 w.heap.size s) := HX5.out.on hB6
  have HT6 : Hid (Got w5 va1 vc1 S ∧ Got w5 va2 vc2 C) := ⟨HT5.out.1.later hB6, HT5.out.2.later hB6⟩
  have c6 := check_is va1 vc1 S w5 HT6.out.1 m HH.out.qm 0 HH.out.qeS
  clear c5 hB6 HB5 HX5 HT5
  go_wp2_with fail
  refine c6.mono ?_
  rintro e w6 ⟨rfl, hB7⟩
  have HB7 : Hid (Below w.heap.size w w6) := below_next HB6.out hB7
  have HX7 : Hid (BoxT w6 w.heap.size s) := HX6.out.on hB7
  have HT7 : Hid (Got w6 va1 vc1 S ∧ Got w6 va2 vc2 C) := ⟨HT6.out.1.later hB7, HT6.out.2.later hB7⟩
  have c7 := check_is va2 vc2 C w6 HT7.out.2 p HH.out.qp 0 HH.out.qeC
  clear c6 hB7 HB6 HX6 HT6
  go_wp2_with fail
  refine c7.mono ?_
  rintro e w7 ⟨rfl, hB8⟩
  have HB8 : Hid (Below w.heap.size w w7) := below_next HB7.out hB8
  have HX8 : Hid (BoxT w7 w.heap.size s) := HX7.out.on hB8
  have k6 := HX8.out.cell0
  have k7 := HX8.out.cell1
  have c8 := covers_is va1 vc1 S s w7 (HT7.out.1.later hB8) m HH.out.qm true HH.out.qcov
  clear c7 hB8 HB7 HX7 HT7
  go_wp2_with fail
  refine c8.mono ?_
  rintro e w8 ⟨rfl, hB9⟩
  have HB9 : Hid (Below w.heap.size w w8) := below_next HB8.out hB9
  clear c8 hB9 HB8 HX8 k6 k7
  go_wp2_with (go_at_call 11; refine (heads_any _).mono ?_; rintro e w9 ⟨rfl, hB10⟩)
  go_ret
  exact ⟨rfl, below_next HB9.out hB10⟩

set_option maxRecDepth 100000 in
set_option maxHeartbeats 4000000 in
theorem has_walk_hit (A : Option Addr) (cap : Nat) (ts : List Tm) (s : Tm) (o : Int) (w : World) (hT : Got w A cap ts) (n m p : Nat) (S C : List Tm) (hr : n * 16 ≤ 140737488351232) (hs1 : 0 ≤ s.1) (hs2 : s.1 ≤ s.2) (hs3 : s.2 ≤ 1125899906842624)
    (h1 : s.1 ≤ o) (h2 : s.2 ≤ o) (H : HasIs ts s o n S m C p true true true) :
    Calls Try.prog 6 #[.slice A n cap, tmV s, .int .i64 o] w fun e w' => e = .returned (.bool true) ∧ Below w.heap.size w w' := by
  have hB0 : Below w.heap.size w (w.alloc (.cells #[.int .i64 s.1, .int .i64 s.2] 24)) := (Below.refl _ w).alloc (Nat.le_refl _) _
  have bS := BoxT.new w s
  have HT : Hid (Got w A cap ts) := hT
  have HH : Hid (HasIs ts s o n S m C p true true true) := H
  have c0 := check_is A cap ts _ (hT.later hB0) n H.qn 0 H.qet
  have HB0 : Hid (Below w.heap.size w (w.alloc (.cells #[.int .i64 s.1, .int .i64 s.2] 24))) := hB0
  have HX : Hid (BoxT (w.alloc (.cells #[.int .i64 s.1, .int .i64 s.2] 24)) w.heap.size s) := bS
  clear hT H hB0 bS
  go_enter Try.func6, Try.ntmps6
  go_wp2_with fail
  refine c0.mono ?_
  rintro e w0 ⟨rfl, hB1⟩
  have HB1 : Hid (Below w.heap.size w w0) := below_next HB0.out hB1
  have HX1 : Hid (BoxT w0 w.heap.size s) := HX.out.on hB1
  have k0 := HX1.out.cell0
  have k1 := HX1.out.cell1
  have c1 := add_fin A cap ts s w0 (HT.out.later HB1.out) n HH.out.qn (by omega) S HH.out.qS m HH.out.qm 0 HH.out.qe
  clear c0 hB1 HB0 HX
  go_wp2_with fail
  refine c1.mono ?_
  rintro e w1 ⟨va1, vc1, rfl, hT1, hB2⟩
  have HB2 : Hid (Below w.heap.size w w1) := below_next HB1.out hB2
  have HX2 : Hid (BoxT w1 w.heap.size s) := HX1.out.on hB2
  have HT2 : Hid (Got w1 va1 vc1 S) := hT1
  have k2 := HX2.out.cell0
  have k3 := HX2.out.cell1
  have c2 := cut_fin A cap ts s w1 (HT.out.later HB2.out) n HH.out.qn (by omega) C HH.out.qC p HH.out.qp 0 HH.out.qe
  clear c1 hB2 hT1 HB1 HX1 k0 k1
  go_wp2_with fail
  refine c2.mono ?_
  rintro e w2 ⟨va2, vc2, rfl, hT3, hB3⟩
  have HB3 : Hid (Below w.heap.size w w2) := below_next HB2.out hB3
  have HX3 : Hid (BoxT w2 w.heap.size s) := HX2.out.on hB3
  have HT3 : Hid (Got w2 va1 vc1 S ∧ Got w2 va2 vc2 C) := ⟨HT2.out.later hB3, hT3⟩
  have k4 := HX3.out.cell0
  have k5 := HX3.out.cell1
  have c3 := has_is A cap ts o w2 (HT.out.later HB3.out) n HH.out.qn true HH.out.qwas
  clear c2 hB3 hT3 HB2 HX2 HT2 k2 k3
  go_wp2_with fail
  refine c3.mono ?_
  rintro e w3 ⟨rfl, hB4⟩
  have HB4 : Hid (Below w.heap.size w w3) := below_next HB3.out hB4
  have HX4 : Hid (BoxT w3 w.heap.size s) := HX3.out.on hB4
  have HT4 : Hid (Got w3 va1 vc1 S ∧ Got w3 va2 vc2 C) := ⟨HT3.out.1.later hB4, HT3.out.2.later hB4⟩
  have c4 := has_is va1 vc1 S o w3 HT4.out.1 m HH.out.qm true HH.out.qha
  clear c3 hB4 HB3 HX3 HT3 k4 k5
  go_wp2_with fail
  refine c4.mono ?_
  rintro e w4 ⟨rfl, hB5⟩
  have HB5 : Hid (Below w.heap.size w w4) := below_next HB4.out hB5
  have HX5 : Hid (BoxT w4 w.heap.size s) := HX4.out.on hB5
  have HT5 : Hid (Got w4 va1 vc1 S ∧ Got w4 va2 vc2 C) := ⟨HT4.out.1.later hB5, HT4.out.2.later hB5⟩
  have c5 := has_is va2 vc2 C o w4 HT5.out.2 p HH.out.qp true HH.out.qhc
  clear c4 hB5 HB4 HX4 HT4
  go_wp2_with fail
  refine c5.mono ?_
  rintro e w5 ⟨rfl, hB6⟩
  have HB6 : Hid (Below w.heap.size w w5) := below_next HB5.out hB6
  have HX6 : Hid (BoxT w5 w.heap.size s) := HX5.out.on hB6
  have HT6 : Hid (Got w5 va1 vc1 S ∧ Got w5 va2 vc2 C) := ⟨HT5.out.1.later hB6, HT5.out.2.later hB6⟩
  have c6 := check_is va1 vc1 S w5 HT6.out.1 m HH.out.qm 0 HH.out.qeS
  clear c5 hB6 HB5 HX5 HT5
  go_wp2_with fail
  refine c6.mono ?_
  rintro e w6 ⟨rfl, hB7⟩
  have HB7 : Hid (Below w.heap.size w w6) := below_next HB6.out hB7
  have HX7 : Hid (BoxT w6 w.heap.size s) := HX6.out.on hB7
  have HT7 : Hid (Got w6 va1 vc1 S ∧ Got w6 va2 vc2 C) := ⟨HT6.out.1.later hB7, HT6.out.2.later hB7⟩
  have c7 := check_is va2 vc2 C w6 HT7.out.2 p HH.out.qp 0 HH.out.qeC
  clear c6 hB7 HB6 HX6 HT6
  go_wp2_with fail
  refine c7.mono ?_
  rintro e w7 ⟨rfl, hB8⟩
  have HB8 : Hid (Below w.heap.size w w7) := below_next HB7.out hB8
  have HX8 : Hid (BoxT w7 w.heap.size s) := HX7.out.on hB8
  have k6 := HX8.out.cell0
  have k7 := HX8.out.cell1
  have c8 := covers_is va1 vc1 S s w7 (HT7.out.1.later hB8) m HH.out.qm true HH.out.qcov
  clear c7 hB8 HB7 HX7 HT7
  go_wp2_with fail
  refine c8.mono ?_
  rintro e w8 ⟨rfl, hB9⟩
  have HB9 : Hid (Below w.heap.size w w8) := below_next HB8.out hB9
  clear c8 hB9 HB8 HX8 k6 k7
  go_wp2_with (go_at_call 11; refine (heads_any _).mono ?_; rintro e w9 ⟨rfl, hB10⟩)
  go_ret
  exact ⟨by have h : ¬ o < s.2 := by omega
            simp [h], below_next HB9.out hB10⟩

set_option maxRecDepth 100000 in
set_option maxHeartbeats 4000000 in
theorem has_walk_hif (A : Option Addr) (cap : Nat) (ts : List Tm) (s : Tm) (o : Int) (w : World) (hT : Got w A cap ts) (n m p : Nat) (S C : List Tm) (hr : n * 16 ≤ 140737488351232) (hs1 : 0 ≤ s.1) (hs2 : s.1 ≤ s.2) (hs3 : s.2 ≤ 1125899906842624)
    (h1 : s.1 ≤ o) (h2 : s.2 ≤ o) (H : HasIs ts s o n S m C p false false false) :
    Calls Try.prog 6 #[.slice A n cap, tmV s, .int .i64 o] w fun e w' => e = .returned (.bool true) ∧ Below w.heap.size w w' := by
  have hB0 : Below w.heap.size w (w.alloc (.cells #[.int .i64 s.1, .int .i64 s.2] 24)) := (Below.refl _ w).alloc (Nat.le_refl _) _
  have bS := BoxT.new w s
  have HT : Hid (Got w A cap ts) := hT
  have HH : Hid (HasIs ts s o n S m C p false false false) := H
  have c0 := check_is A cap ts _ (hT.later hB0) n H.qn 0 H.qet
  have HB0 : Hid (Below w.heap.size w (w.alloc (.cells #[.int .i64 s.1, .int .i64 s.2] 24))) := hB0
  have HX : Hid (BoxT (w.alloc (.cells #[.int .i64 s.1, .int .i64 s.2] 24)) w.heap.size s) := bS
  clear hT H hB0 bS
  go_enter Try.func6, Try.ntmps6
  go_wp2_with fail
  refine c0.mono ?_
  rintro e w0 ⟨rfl, hB1⟩
  have HB1 : Hid (Below w.heap.size w w0) := below_next HB0.out hB1
  have HX1 : Hid (BoxT w0 w.heap.size s) := HX.out.on hB1
  have k0 := HX1.out.cell0
  have k1 := HX1.out.cell1
  have c1 := add_fin A cap ts s w0 (HT.out.later HB1.out) n HH.out.qn (by omega) S HH.out.qS m HH.out.qm 0 HH.out.qe
  clear c0 hB1 HB0 HX
  go_wp2_with fail
  refine c1.mono ?_
  rintro e w1 ⟨va1, vc1, rfl, hT1, hB2⟩
  have HB2 : Hid (Below w.heap.size w w1) := below_next HB1.out hB2
  have HX2 : Hid (BoxT w1 w.heap.size s) := HX1.out.on hB2
  have HT2 : Hid (Got w1 va1 vc1 S) := hT1
  have k2 := HX2.out.cell0
  have k3 := HX2.out.cell1
  have c2 := cut_fin A cap ts s w1 (HT.out.later HB2.out) n HH.out.qn (by omega) C HH.out.qC p HH.out.qp 0 HH.out.qe
  clear c1 hB2 hT1 HB1 HX1 k0 k1
  go_wp2_with fail
  refine c2.mono ?_
  rintro e w2 ⟨va2, vc2, rfl, hT3, hB3⟩
  have HB3 : Hid (Below w.heap.size w w2) := below_next HB2.out hB3
  have HX3 : Hid (BoxT w2 w.heap.size s) := HX2.out.on hB3
  have HT3 : Hid (Got w2 va1 vc1 S ∧ Got w2 va2 vc2 C) := ⟨HT2.out.later hB3, hT3⟩
  have k4 := HX3.out.cell0
  have k5 := HX3.out.cell1
  have c3 := has_is A cap ts o w2 (HT.out.later HB3.out) n HH.out.qn false HH.out.qwas
  clear c2 hB3 hT3 HB2 HX2 HT2 k2 k3
  go_wp2_with fail
  refine c3.mono ?_
  rintro e w3 ⟨rfl, hB4⟩
  have HB4 : Hid (Below w.heap.size w w3) := below_next HB3.out hB4
  have HX4 : Hid (BoxT w3 w.heap.size s) := HX3.out.on hB4
  have HT4 : Hid (Got w3 va1 vc1 S ∧ Got w3 va2 vc2 C) := ⟨HT3.out.1.later hB4, HT3.out.2.later hB4⟩
  have c4 := has_is va1 vc1 S o w3 HT4.out.1 m HH.out.qm false HH.out.qha
  clear c3 hB4 HB3 HX3 HT3 k4 k5
  go_wp2_with fail
  refine c4.mono ?_
  rintro e w4 ⟨rfl, hB5⟩
  have HB5 : Hid (Below w.heap.size w w4) := below_next HB4.out hB5
  have HX5 : Hid (BoxT w4 w.heap.size s) := HX4.out.on hB5
  have HT5 : Hid (Got w4 va1 vc1 S ∧ Got w4 va2 vc2 C) := ⟨HT4.out.1.later hB5, HT4.out.2.later hB5⟩
  have c5 := has_is va2 vc2 C o w4 HT5.out.2 p HH.out.qp false HH.out.qhc
  clear c4 hB5 HB4 HX4 HT4
  go_wp2_with fail
  refine c5.mono ?_
  rintro e w5 ⟨rfl, hB6⟩
  have HB6 : Hid (Below w.heap.size w w5) := below_next HB5.out hB6
  have HX6 : Hid (BoxT w5 w.heap.size s) := HX5.out.on hB6
  have HT6 : Hid (Got w5 va1 vc1 S ∧ Got w5 va2 vc2 C) := ⟨HT5.out.1.later hB6, HT5.out.2.later hB6⟩
  have c6 := check_is va1 vc1 S w5 HT6.out.1 m HH.out.qm 0 HH.out.qeS
  clear c5 hB6 HB5 HX5 HT5
  go_wp2_with fail
  refine c6.mono ?_
  rintro e w6 ⟨rfl, hB7⟩
  have HB7 : Hid (Below w.heap.size w w6) := below_next HB6.out hB7
  have HX7 : Hid (BoxT w6 w.heap.size s) := HX6.out.on hB7
  have HT7 : Hid (Got w6 va1 vc1 S ∧ Got w6 va2 vc2 C) := ⟨HT6.out.1.later hB7, HT6.out.2.later hB7⟩
  have c7 := check_is va2 vc2 C w6 HT7.out.2 p HH.out.qp 0 HH.out.qeC
  clear c6 hB7 HB6 HX6 HT6
  go_wp2_with fail
  refine c7.mono ?_
  rintro e w7 ⟨rfl, hB8⟩
  have HB8 : Hid (Below w.heap.size w w7) := below_next HB7.out hB8
  have HX8 : Hid (BoxT w7 w.heap.size s) := HX7.out.on hB8
  have k6 := HX8.out.cell0
  have k7 := HX8.out.cell1
  have c8 := covers_is va1 vc1 S s w7 (HT7.out.1.later hB8) m HH.out.qm true HH.out.qcov
  clear c7 hB8 HB7 HX7 HT7
  go_wp2_with fail
  refine c8.mono ?_
  rintro e w8 ⟨rfl, hB9⟩
  have HB9 : Hid (Below w.heap.size w w8) := below_next HB8.out hB9
  clear c8 hB9 HB8 HX8 k6 k7
  go_wp2_with (go_at_call 11; refine (heads_any _).mono ?_; rintro e w9 ⟨rfl, hB10⟩)
  go_ret
  exact ⟨by have h : ¬ o < s.2 := by omega
            simp [h], below_next HB9.out hB10⟩

theorem has_walk (A : Option Addr) (cap : Nat) (ts : List Tm) (s : Tm) (o : Int) (w : World) (hT : Got w A cap ts) (hr : ts.length * 16 ≤ 140737488351232) :
    Calls Try.prog 6 #[.slice A ts.length cap, tmV s, .int .i64 o] w fun e w' => e = .returned (.bool true) ∧ Below w.heap.size w w' := by
  by_cases hok : chk (-1) ts = true ∧ rightB s = true
  · obtain ⟨hc, hs⟩ := hok
    have hs' := rightB_iff.1 hs
    have mk : ∀ was ha hcc : Bool, (was = true ↔ Has ts o) → (ha = true ↔ Has (addV ts s) o) → (hcc = true ↔ Has (cutV ts s) o) → HasIs ts s o ts.length (addV ts s) (addV ts s).length (cutV ts s) (cutV ts s).length was ha hcc := fun was ha hcc h1 h2 h3 =>
      ⟨rfl, rfl, rfl, rfl, rfl, bothI_ok hc hs, findV_is hc _ h1, findV_is (addV_chk hc hs) _ h2, findV_is (cutV_chk hc hs) _ h3, by unfold errI; rw [if_pos (addV_chk hc hs)], by unfold errI; rw [if_pos (cutV_chk hc hs)], covers_added hc hs, by unfold errI; rw [if_pos hc]⟩
    have ea := @addV_has ts s o hc hs
    have ec := @cutV_has ts s o hc hs
    by_cases hw : Has ts o
    · by_cases h1 : s.1 ≤ o
      · by_cases h2 : o < s.2
        · exact has_walk_int A cap ts s o w hT _ _ _ _ _ hr hs'.1 hs'.2.1 hs'.2.2 h1 h2 (mk true true false (by simp [hw]) (by rw [ea]; simp [hw]) (by rw [ec]; simp [h1, h2]))
        · exact has_walk_hit A cap ts s o w hT _ _ _ _ _ hr hs'.1 hs'.2.1 hs'.2.2 h1 (by omega) (mk true true true (by simp [hw]) (by rw [ea]; simp [hw]) (by rw [ec]; simp [hw, h2]))
      · exact has_walk_lot A cap ts s o w hT _ _ _ _ _ hr hs'.1 hs'.2.1 hs'.2.2 (by omega) (mk true true true (by simp [hw]) (by rw [ea]; simp [hw]) (by rw [ec]; simp [hw, h1]))
    · by_cases h1 : s.1 ≤ o
      · by_cases h2 : o < s.2
        · exact has_walk_inf A cap ts s o w hT _ _ _ _ _ hr hs'.1 hs'.2.1 hs'.2.2 h1 h2 (mk false true false (by simp [hw]) (by rw [ea]; simp [h1, h2]) (by rw [ec]; simp [hw]))
        · exact has_walk_hif A cap ts s o w hT _ _ _ _ _ hr hs'.1 hs'.2.1 hs'.2.2 h1 (by omega) (mk false false false (by simp [hw]) (by rw [ea]; simp [hw, h2]) (by rw [ec]; simp [hw]))
      · exact has_walk_lof A cap ts s o w hT _ _ _ _ _ hr hs'.1 hs'.2.1 hs'.2.2 (by omega) (mk false false false (by simp [hw]) (by rw [ea]; simp [hw, h1]) (by rw [ec]; simp [hw]))
  · exact has_not A cap ts s o w hT hok
end Go.Proofs.Ytiigipfcagmgnaa
