/- The contract of heads; the calls as laws take them. -/
import Derived.Test.YtdacbmjahhefcaaRefPut
namespace Go.Proofs.Ytdacbmjahhefcaa
open Go.ChangeShapes Go.WideShapes Go.ChangeAt Go.RowKit Go.Shelf
set_option linter.unusedVariables false
set_option linter.unusedSimpArgs false

theorem put_is (A : Option Addr) (cap : Nat) (ts : List Tm) (t v win : Int) (m : Bool) (w : World) (hT : TimsAt w A ts) (n : Nat) (hn : ts.length = n) (hcap : n ≤ cap) (hr : n * 16 ≤ 140737488351232) (S : List Tm) (hS : putL m ts t v win = S) (k : Nat) (hk : S.length = k) (q : Int) (hq : putE m ts t v win = q) :
    Calls Try.prog 7 #[.slice A n cap, .int .i64 t, .int .i64 v, .int .i64 win, .bool m] w fun e w' => ∃ va vc, e = .returned (.tuple #[.slice va k vc, .int .i64 q]) ∧ RowT w' w.heap.size va k vc S ∧ Below w.heap.size w w' := by
  subst hn; subst hS; subst hk; subst hq
  exact put_any A cap ts t v win m w hT hcap hr
theorem refPut_is (A : Option Addr) (cap : Nat) (ts : List Tm) (t v win : Int) (m : Bool) (w : World) (hT : TimsAt w A ts) (n : Nat) (hn : ts.length = n) (hr : n * 16 ≤ 140737488351232) (S : List Tm) (hS : putL m ts t v win = S) (k : Nat) (hk : S.length = k) (q : Int) (hq : putE m ts t v win = q) :
    Calls Try.prog 9 #[.slice A n cap, .int .i64 t, .int .i64 v, .int .i64 win, .bool m] w fun e w' => ∃ va vc, e = .returned (.tuple #[.slice va k vc, .int .i64 q]) ∧ RowT w' w.heap.size va k vc S ∧ Below w.heap.size w w' := by
  subst hS; subst hk; subst hq
  exact refPut_any A cap ts t v win m w hT n hn hr
theorem check_is (A : Option Addr) (cap : Nat) (ts : List Tm) (m : Bool) (w : World) (hT : TimsAt w A ts) (n : Nat) (hn : ts.length = n) (q : Int) (hq : errI m ts = q) :
    Calls Try.prog 13 #[.slice A n cap, .bool m] w fun e w' => e = .returned (.int .i64 q) ∧ Below w.heap.size w w' := by
  subst hn; subst hq
  exact check_any A cap ts m w hT
theorem best_is (a : Option Addr) (c : Nat) (l : List Tm) (w : World) (hT : TimsAt w a l) (n : Nat) (hn : l.length = n) (q : Int) (hq : bestV l = q) (z : Bool) (hz : bestB l = z) : Calls Try.prog 10 #[.slice a n c] w fun e w' => e = .returned (.tuple #[.int .i64 q, .bool z]) ∧ w' = w := by
  subst hn; subst hq; subst hz
  exact best_walk a c l w hT
theorem refBest_is (a : Option Addr) (c : Nat) (l : List Tm) (w : World) (hT : TimsAt w a l) (n : Nat) (hn : l.length = n) (q : Int) (hq : bestV l = q) (z : Bool) (hz : bestB l = z) : Calls Try.prog 11 #[.slice a n c] w fun e w' => e = .returned (.tuple #[.int .i64 q, .bool z]) ∧ w' = w := by
  subst hn; subst hq; subst hz
  exact refBest_walk a c l w hT
theorem tims_two (w : World) (x y : Tm) : TimsAt (w.alloc (.cells #[.int .i64 x.1, .int .i64 x.2, .int .i64 y.1, .int .i64 y.2] 28)) (some ⟨w.heap.size, 0, none⟩) [x, y] := by
  refine ⟨by simp [maxLen], fun j hj => ⟨_, _, rfl, ?_⟩⟩
  have h1 := World.cell?_alloc_at (w := w) #[.int .i64 x.1, .int .i64 x.2, .int .i64 y.1, .int .i64 y.2] 28 w.heap.size
  match j, hj with
  | 0, _ => exact ⟨(h1 0 rfl), (h1 1 rfl)⟩
  | 1, _ => exact ⟨(h1 2 rfl), (h1 3 rfl)⟩
  | j + 2, h => simp at h; omega
set_option maxRecDepth 100000 in
set_option maxHeartbeats 4000000 in
theorem heads_any (w : World) : Calls Try.prog 8 #[] w fun e w' => e = .returned (.bool true) ∧ Below w.heap.size w w' := by
  have c1 := put_is none 0 [] 0 5 10 true w (TimsAt.nil _ _) 0 rfl (Nat.le_refl _) (by decide) [(0, 5)] (by decide) 1 rfl 0 (by decide)
  go_enter Try.func8, Try.ntmps8
  go_wp2_with fail
  refine c1.mono ?_
  rintro e w1 ⟨va1, vc1, rfl, hR1, hB1⟩
  have c2 := put_is va1 vc1 [(0, 5)] 3 4 10 true w1 hR1.tims 1 rfl hR1.max.1 (by decide) [(0, 5), (3, 4)] (by decide) 2 rfl 0 (by decide)
  have HB1 : Hid (Below w.heap.size w w1) := hB1
  clear hB1 c1 hR1
  go_wp2_with fail
  refine c2.mono ?_
  rintro e w2 ⟨va2, vc2, rfl, hR2, hB2⟩
  have c3 := put_is va2 vc2 [(0, 5), (3, 4)] 4 4 10 true w2 hR2.tims 2 rfl hR2.max.1 (by decide) [(0, 5), (4, 4)] (by decide) 2 rfl 0 (by decide)
  have HB2 : Hid (Below w.heap.size w w2) := Below.on HB1.out hB2
  clear hB2 c2 hR2 HB1
  go_wp2_with fail
  refine c3.mono ?_
  rintro e w3 ⟨va3, vc3, rfl, hR3, hB3⟩
  have c4 := put_is va3 vc3 [(0, 5), (4, 4)] 11 1 10 true w3 hR3.tims 2 rfl hR3.max.1 (by decide) [(4, 4), (11, 1)] (by decide) 2 rfl 0 (by decide)
  have HT3 : Hid (TimsAt w3 va3 [(0, 5), (4, 4)]) := hR3.tims
  have HB3 : Hid (Below w.heap.size w w3) := Below.on HB2.out hB3
  clear hB3 c3 hR3 HB2
  go_wp2_with fail
  refine c4.mono ?_
  rintro e w4 ⟨va4, vc4, rfl, hR4, hB4⟩
  have c5 := put_is va4 vc4 [(4, 4), (11, 1)] 2 1 10 true w4 hR4.tims 2 rfl hR4.max.1 (by decide) [] (by decide) 0 rfl 2 (by decide)
  have HT4 : Hid (TimsAt w4 va3 [(0, 5), (4, 4)] ∧ TimsAt w4 va4 [(4, 4), (11, 1)]) := ⟨HT3.out.below hB4 (Nat.le_refl _), hR4.tims⟩
  have HB4 : Hid (Below w.heap.size w w4) := Below.on HB3.out hB4
  clear hB4 c4 hR4 HB3 HT3
  go_wp2_with fail
  refine c5.mono ?_
  rintro e w5 ⟨va5, vc5, rfl, hR5, hB5⟩
  have HT5 : Hid (TimsAt w5 va3 [(0, 5), (4, 4)] ∧ TimsAt w5 va4 [(4, 4), (11, 1)]) := ⟨HT4.out.1.below hB5 (Nat.le_refl _), HT4.out.2.below hB5 (Nat.le_refl _)⟩
  have HB5 : Hid (Below w.heap.size w w5) := Below.on HB4.out hB5
  have c6 := best_is va4 vc4 [(4, 4), (11, 1)] w5 HT5.out.2 2 rfl 4 rfl true rfl
  clear hB5 c5 hR5 HB4 HT4
  go_wp2_with fail
  refine c6.mono ?_
  rintro e w6 ⟨rfl, rfl⟩
  have HA : Hid (TimsAt (w6.alloc (.cells #[.int .i64 0, .int .i64 5, .int .i64 4, .int .i64 4] 28)) va3 [(0, 5), (4, 4)]) := HT5.out.1.alloc _
  have HA2 : Hid (TimsAt (w6.alloc (.cells #[.int .i64 0, .int .i64 5, .int .i64 4, .int .i64 4] 28)) va4 [(4, 4), (11, 1)]) := HT5.out.2.alloc _
  have HB6 : Hid (Below w.heap.size w (w6.alloc (.cells #[.int .i64 0, .int .i64 5, .int .i64 4, .int .i64 4] 28))) := below_more HB5.out _
  have c7 := same_any va3 (some ⟨w6.heap.size, 0, none⟩) vc3 2 [(0, 5), (4, 4)] (w6.alloc (.cells #[.int .i64 0, .int .i64 5, .int .i64 4, .int .i64 4] 28)) HA.out (tims_two w6 (0, 5) (4, 4)) 2 rfl
  clear c6 HT5 HB5
  go_wp2_with fail
  refine c7.mono ?_
  rintro e w7 ⟨rfl, hB7⟩
  have HB7 : Hid (Below w.heap.size w (w7.alloc (.cells #[.int .i64 4, .int .i64 4, .int .i64 11, .int .i64 1] 28))) := below_more (Below.on HB6.out hB7) _
  have c8 := same_any va4 (some ⟨w7.heap.size, 0, none⟩) vc4 2 [(4, 4), (11, 1)] (w7.alloc (.cells #[.int .i64 4, .int .i64 4, .int .i64 11, .int .i64 1] 28)) ((HA2.out.below hB7 (Nat.le_refl _)).alloc _) (tims_two w7 (4, 4) (11, 1)) 2 rfl
  clear c7 hB7 HB6 HA HA2
  go_wp2_with fail
  refine c8.mono ?_
  rintro e w8 ⟨rfl, hB8⟩
  have HB8 : Hid (Below w.heap.size w w8) := Below.on HB7.out hB8
  clear c8 hB8 HB7
  go_wp2_with fail
  go_ret
  exact ⟨rfl, HB8.out⟩
end Go.Proofs.Ytdacbmjahhefcaa
