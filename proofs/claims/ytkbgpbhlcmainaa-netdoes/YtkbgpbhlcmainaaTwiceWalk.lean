/- The walk of NetTwice. -/
import Derived.Test.YtkbgpbhlcmainaaHeads
import Derived.Test.YtkbgpbhlcmainaaRefSame
import Derived.Test.YtkbgpbhlcmainaaSpoil
namespace Go.Proofs.Ytkbgpbhlcmainaa
open Go.ChangeShapes Go.WideShapes Go.ChangeAt Go.RowKit
set_option linter.unusedVariables false

theorem dats_one (w : World) (x : En) (h : x.ok w) : DatsAt (w.alloc (.cells #[.slice x.a x.bs.length x.c, .int .i64 x.t] 26)) (some ⟨w.heap.size, 0, none⟩) 1 1 [x.dg] :=
  ⟨[x], rfl, rfl, by omega, Nat.le_refl _, by simp [maxLen], fun h => (by cases h), ents_one w x, fun y hy => by simp at hy; subst hy; exact h.below ((Below.refl _ w).alloc (Nat.le_refl _) _) (Nat.le_refl _)⟩
theorem dats_one' (w : World) (a : Option Addr) (c : Nat) (d : Dg) (h : En.ok w ⟨a, c, d.1, d.2⟩) : DatsAt (w.alloc (.cells #[.slice a d.1.length c, .int .i64 d.2] 26)) (some ⟨w.heap.size, 0, none⟩) 1 1 [d] := dats_one w ⟨a, c, d.1, d.2⟩ h
theorem spo_cases (l : List Dg) (k b : Int) : spoE l k b = 0 ∨ spoE l k b = 2 ∨ spoE l k b = 50 := by
  unfold spoE; repeat' split
  all_goals simp
theorem dbl_cases (l : List Dg) (k : Int) : (dblE l k = 0 ∧ plB l.length k = true ∧ dblL l k = l ++ [l[k.toNat]?.getD z0]) ∨ (dblE l k = 50 ∧ dblL l k = []) ∨ (dblE l k = 70 ∧ dblL l k = []) := by
  unfold dblE dblL
  cases plB l.length k with
  | false => simp
  | true =>
    by_cases h : 65536 ≤ l.length
    · simp [h]
    · simp [h]
theorem take_back {l : List Dg} {x : Dg} {n : Nat} (hn : l.length = n) : takeL (l ++ [x]) (n : Int) = l ∧ takeD (l ++ [x]) (n : Int) = x ∧ takeE (l ++ [x]) (n : Int) = 0 := by
  have hp : plB (l ++ [x]).length (n : Int) = true := by simp [plB]; omega
  unfold takeL takeD takeE
  rw [hp]
  subst hn
  simp

set_option maxRecDepth 100000 in
set_option maxHeartbeats 4000000 in
theorem twice_0_0 (A : Option Addr) (n c : Nat) (l : List Dg) (k b : Int) (w : World) (S D : List Dg) (m p : Nat) (x : Dg) (HD : Hid (DatsAt w A n c l ∧ spoL l k b = S ∧ spoE l k b = 0)) (HP : Hid (l.length = n ∧ I64 b ∧ S.length = m ∧ l.length = n ∧ spoE S k b = 0 ∧ spoL S k b = l ∧ S ≠ l)) (HQ : Hid (dblL l k = D ∧ D.length = p ∧ dblE l k = 0 ∧ takeL D (n : Int) = l ∧ takeE D (n : Int) = 0 ∧ takeD D (n : Int) = x ∧ takeE l k = 0 ∧ takeD l k = x)) :
    Calls Try.prog 7 #[.slice A n c, .int .i64 k, .int .i64 b] w fun e w' => e = .returned (.bool true) ∧ Below w.heap.size w w' := by
  have c1 := spoil_any A n c l k b w HD.out.1 HP.out.2.1 S HD.out.2.1 m HP.out.2.2.1 0 HD.out.2.2
  go_enter Try.func7, Try.ntmps7
  go_wp2_with fail
  refine c1.mono ?_
  rintro e w1 ⟨va1, vc1, rfl, hT1, hB1⟩
  have HT1 : Hid (DatsAt w1 va1 m vc1 S) := hT1
  have HB1 : Hid (Below w.heap.size w w1) := hB1
  have c2 := spoil_any va1 m vc1 S k b w1 hT1 HP.out.2.1 l HP.out.2.2.2.2.2.1 n HP.out.2.2.2.1 0 HP.out.2.2.2.2.1
  clear c1 hT1 hB1
  go_wp2_with fail
  refine c2.mono ?_
  rintro e w2 ⟨va2, vc2, rfl, hT2, hB2⟩
  have HB2 : Hid (Below w.heap.size w w2) := Below.on HB1.out hB2
  have HT2 : Hid (DatsAt w2 va1 m vc1 S) := HT1.out.later hB2
  have c3 := refSame_any va2 A n n vc2 c l l w2 hT2 (HD.out.1.later HB2.out) true (by simp)
  clear c2 hT2 hB2 HB1 HT1
  go_wp2_with fail
  refine c3.mono ?_
  rintro e w3 ⟨rfl, hB3⟩
  have HB3 : Hid (Below w.heap.size w w3) := Below.on HB2.out hB3
  have c4 := refSame_any va1 A m n vc1 c S l w3 (HT2.out.later hB3) (HD.out.1.later HB3.out) false (by simpa using HP.out.2.2.2.2.2.2)
  clear c3 hB3 HB2 HT2
  go_wp2_with fail
  refine c4.mono ?_
  rintro e w4 ⟨rfl, hB4⟩
  have HB : Hid (Below w.heap.size w w4) := Below.on HB3.out hB4
  clear c4 hB4 HB3
  go_wp2_with fail
  refine (double_any A n c l k w4 (HD.out.1.later HB.out) D HQ.out.1 p HQ.out.2.1 0 HQ.out.2.2.1).mono ?_
  rintro e w5 ⟨va5, vc5, rfl, hT5, hB5⟩
  have HB5 : Hid (Below w.heap.size w w5) := Below.on HB.out hB5
  have c6 := take_any va5 p vc5 D (n : Int) w5 hT5 l HQ.out.2.2.2.1 n HP.out.1 0 HQ.out.2.2.2.2.1 x HQ.out.2.2.2.2.2.1
  clear hT5 hB5 HB
  go_wp2_with fail
  refine c6.mono ?_
  rintro e w6 ⟨da6, dc6, va6, vc6, rfl, hK6, hT6, hB6⟩
  have hb6 := below_more (Below.refl w6.heap.size w6) (.cells #[.slice da6 x.1.length dc6, .int .i64 x.2] 26)
  have HB6 : Hid (Below w.heap.size w (w6.alloc (.cells #[.slice da6 x.1.length dc6, .int .i64 x.2] 26))) := below_more (Below.on HB5.out hB6) _
  have HK6 : Hid (En.ok (w6.alloc (.cells #[.slice da6 x.1.length dc6, .int .i64 x.2] 26)) ⟨da6, dc6, x.1, x.2⟩ ∧ DatsAt (w6.alloc (.cells #[.slice da6 x.1.length dc6, .int .i64 x.2] 26)) va6 n vc6 l ∧ BoxD (w6.alloc (.cells #[.slice da6 x.1.length dc6, .int .i64 x.2] 26)) w6.heap.size (.slice da6 x.1.length dc6) (.int .i64 x.2)) := ⟨hK6.below hb6 (Nat.le_refl _), hT6.later hb6, BoxD.new _ _ _⟩
  have c7 := take_any A n c l k (w6.alloc (.cells #[.slice da6 x.1.length dc6, .int .i64 x.2] 26)) (HD.out.1.later HB6.out) (takeL l k) rfl _ rfl 0 HQ.out.2.2.2.2.2.2.1 x HQ.out.2.2.2.2.2.2.2
  obtain ⟨L7, hL7⟩ : ∃ L7, (takeL l k).length = L7 := ⟨_, rfl⟩
  rw [hL7] at c7
  clear c6 hK6 hT6 hB6 hb6 HB5 hL7
  go_wp2_with fail
  refine c7.mono ?_
  rintro e w7 ⟨da7, dc7, va7, vc7, rfl, hK7, hT7, hB7⟩
  have hb7 := below_more (Below.refl w7.heap.size w7) (.cells #[.slice da7 x.1.length dc7, .int .i64 x.2] 26)
  have hb67 := Below.on hB7 hb7
  have HB7 : Hid (Below w.heap.size w (w7.alloc (.cells #[.slice da7 x.1.length dc7, .int .i64 x.2] 26))) := Below.on HB6.out hb67
  have HK7 : Hid (En.ok (w7.alloc (.cells #[.slice da7 x.1.length dc7, .int .i64 x.2] 26)) ⟨da6, dc6, x.1, x.2⟩ ∧ En.ok (w7.alloc (.cells #[.slice da7 x.1.length dc7, .int .i64 x.2] 26)) ⟨da7, dc7, x.1, x.2⟩ ∧ BoxD (w7.alloc (.cells #[.slice da7 x.1.length dc7, .int .i64 x.2] 26)) w6.heap.size (.slice da6 x.1.length dc6) (.int .i64 x.2) ∧ BoxD (w7.alloc (.cells #[.slice da7 x.1.length dc7, .int .i64 x.2] 26)) w7.heap.size (.slice da7 x.1.length dc7) (.int .i64 x.2)) := ⟨HK6.out.1.below hb67 (Nat.le_refl _), hK7.below hb7 (Nat.le_refl _), HK6.out.2.2.later hb67, BoxD.new _ _ _⟩
  have c8 := refSame_any va6 A n n vc6 c l l (w7.alloc (.cells #[.slice da7 x.1.length dc7, .int .i64 x.2] 26)) (HK6.out.2.1.later hb67) (HD.out.1.later HB7.out) true (by simp)
  clear c7 hK7 hT7 hB7 hb7 hb67 HB6 HK6
  go_wp2_with fail
  refine c8.mono ?_
  rintro e w8 ⟨rfl, hB8⟩
  have HB8 : Hid (Below w.heap.size w w8) := Below.on HB7.out hB8
  have k0 := (HK7.out.2.2.1.later hB8).cell0
  have k1 := (HK7.out.2.2.1.later hB8).cell1
  have k2 := (HK7.out.2.2.2.later hB8).cell0
  have k3 := (HK7.out.2.2.2.later hB8).cell1
  have hx8 := HK7.out.1.below hB8 (Nat.le_refl _)
  have hy8 := HK7.out.2.1.below hB8 (Nat.le_refl _)
  have d1 := dats_one' w8 da6 dc6 x hx8
  have d2 := dats_one' (w8.alloc (.cells #[.slice da6 x.1.length dc6, .int .i64 x.2] 26)) da7 dc7 x (hy8.below (below_more (Below.refl _ _) _) (Nat.le_refl _))
  have c9 := refSame_any _ _ 1 1 1 1 [x] [x] ((w8.alloc (.cells #[.slice da6 x.1.length dc6, .int .i64 x.2] 26)).alloc (.cells #[.slice da7 x.1.length dc7, .int .i64 x.2] 26)) (d1.alloc _) d2 true (by simp)
  rw [World.size_alloc] at c9
  have HB9 : Hid (Below w.heap.size w ((w8.alloc (.cells #[.slice da6 x.1.length dc6, .int .i64 x.2] 26)).alloc (.cells #[.slice da7 x.1.length dc7, .int .i64 x.2] 26))) := below_more (below_more HB8.out _) _
  have h67 : w6.heap.size < w8.heap.size := (HK7.out.2.2.1.later hB8).lt
  have h78 : w7.heap.size < w8.heap.size := (HK7.out.2.2.2.later hB8).lt
  clear c8 hB8 HB7 HK7 hx8 hy8 d1 d2 HB8
  go_wp2_with fail
  refine c9.mono ?_
  rintro e w9 ⟨rfl, hB9⟩
  have HB10 : Hid (Below w.heap.size w w9) := Below.on HB9.out hB9
  clear c9 hB9 HB9
  go_wp2_with fail
  refine (heads_any _).mono ?_
  rintro e w10 ⟨rfl, hB10⟩
  go_wp2_with fail
  go_ret
  exact ⟨rfl, Below.on HB10.out hB10⟩

set_option maxRecDepth 100000 in
set_option maxHeartbeats 4000000 in
theorem twice_0_50 (A : Option Addr) (n c : Nat) (l : List Dg) (k b : Int) (w : World) (S D : List Dg) (m p : Nat) (x : Dg) (HD : Hid (DatsAt w A n c l ∧ spoL l k b = S ∧ spoE l k b = 0)) (HP : Hid (l.length = n ∧ I64 b ∧ S.length = m ∧ l.length = n ∧ spoE S k b = 0 ∧ spoL S k b = l ∧ S ≠ l)) (HQ : Hid (dblL l k = D ∧ D.length = p ∧ dblE l k = 50 ∧ p = 0)) :
    Calls Try.prog 7 #[.slice A n c, .int .i64 k, .int .i64 b] w fun e w' => e = .returned (.bool true) ∧ Below w.heap.size w w' := by
  have c1 := spoil_any A n c l k b w HD.out.1 HP.out.2.1 S HD.out.2.1 m HP.out.2.2.1 0 HD.out.2.2
  go_enter Try.func7, Try.ntmps7
  go_wp2_with fail
  refine c1.mono ?_
  rintro e w1 ⟨va1, vc1, rfl, hT1, hB1⟩
  have HT1 : Hid (DatsAt w1 va1 m vc1 S) := hT1
  have HB1 : Hid (Below w.heap.size w w1) := hB1
  have c2 := spoil_any va1 m vc1 S k b w1 hT1 HP.out.2.1 l HP.out.2.2.2.2.2.1 n HP.out.2.2.2.1 0 HP.out.2.2.2.2.1
  clear c1 hT1 hB1
  go_wp2_with fail
  refine c2.mono ?_
  rintro e w2 ⟨va2, vc2, rfl, hT2, hB2⟩
  have HB2 : Hid (Below w.heap.size w w2) := Below.on HB1.out hB2
  have HT2 : Hid (DatsAt w2 va1 m vc1 S) := HT1.out.later hB2
  have c3 := refSame_any va2 A n n vc2 c l l w2 hT2 (HD.out.1.later HB2.out) true (by simp)
  clear c2 hT2 hB2 HB1 HT1
  go_wp2_with fail
  refine c3.mono ?_
  rintro e w3 ⟨rfl, hB3⟩
  have HB3 : Hid (Below w.heap.size w w3) := Below.on HB2.out hB3
  have c4 := refSame_any va1 A m n vc1 c S l w3 (HT2.out.later hB3) (HD.out.1.later HB3.out) false (by simpa using HP.out.2.2.2.2.2.2)
  clear c3 hB3 HB2 HT2
  go_wp2_with fail
  refine c4.mono ?_
  rintro e w4 ⟨rfl, hB4⟩
  have HB : Hid (Below w.heap.size w w4) := Below.on HB3.out hB4
  clear c4 hB4 HB3
  go_wp2_with fail
  refine (double_any A n c l k w4 (HD.out.1.later HB.out) D HQ.out.1 p HQ.out.2.1 50 HQ.out.2.2.1).mono ?_
  rintro e w5 ⟨va5, vc5, rfl, hT5, hB5⟩
  have HB5 : Hid (Below w.heap.size w w5) := Below.on HB.out hB5
  obtain rfl : p = 0 := HQ.out.2.2.2
  clear hT5 hB5 HB
  go_wp2_with fail
  refine (heads_any _).mono ?_
  rintro e w6 ⟨rfl, hB6⟩
  go_wp2_with fail
  go_ret
  exact ⟨rfl, Below.on HB5.out hB6⟩

set_option maxRecDepth 100000 in
set_option maxHeartbeats 4000000 in
theorem twice_0_70 (A : Option Addr) (n c : Nat) (l : List Dg) (k b : Int) (w : World) (S D : List Dg) (m p : Nat) (x : Dg) (HD : Hid (DatsAt w A n c l ∧ spoL l k b = S ∧ spoE l k b = 0)) (HP : Hid (l.length = n ∧ I64 b ∧ S.length = m ∧ l.length = n ∧ spoE S k b = 0 ∧ spoL S k b = l ∧ S ≠ l)) (HQ : Hid (dblL l k = D ∧ D.length = p ∧ dblE l k = 70 ∧ p = 0)) :
    Calls Try.prog 7 #[.slice A n c, .int .i64 k, .int .i64 b] w fun e w' => e = .returned (.bool true) ∧ Below w.heap.size w w' := by
  have c1 := spoil_any A n c l k b w HD.out.1 HP.out.2.1 S HD.out.2.1 m HP.out.2.2.1 0 HD.out.2.2
  go_enter Try.func7, Try.ntmps7
  go_wp2_with fail
  refine c1.mono ?_
  rintro e w1 ⟨va1, vc1, rfl, hT1, hB1⟩
  have HT1 : Hid (DatsAt w1 va1 m vc1 S) := hT1
  have HB1 : Hid (Below w.heap.size w w1) := hB1
  have c2 := spoil_any va1 m vc1 S k b w1 hT1 HP.out.2.1 l HP.out.2.2.2.2.2.1 n HP.out.2.2.2.1 0 HP.out.2.2.2.2.1
  clear c1 hT1 hB1
  go_wp2_with fail
  refine c2.mono ?_
  rintro e w2 ⟨va2, vc2, rfl, hT2, hB2⟩
  have HB2 : Hid (Below w.heap.size w w2) := Below.on HB1.out hB2
  have HT2 : Hid (DatsAt w2 va1 m vc1 S) := HT1.out.later hB2
  have c3 := refSame_any va2 A n n vc2 c l l w2 hT2 (HD.out.1.later HB2.out) true (by simp)
  clear c2 hT2 hB2 HB1 HT1
  go_wp2_with fail
  refine c3.mono ?_
  rintro e w3 ⟨rfl, hB3⟩
  have HB3 : Hid (Below w.heap.size w w3) := Below.on HB2.out hB3
  have c4 := refSame_any va1 A m n vc1 c S l w3 (HT2.out.later hB3) (HD.out.1.later HB3.out) false (by simpa using HP.out.2.2.2.2.2.2)
  clear c3 hB3 HB2 HT2
  go_wp2_with fail
  refine c4.mono ?_
  rintro e w4 ⟨rfl, hB4⟩
  have HB : Hid (Below w.heap.size w w4) := Below.on HB3.out hB4
  clear c4 hB4 HB3
  go_wp2_with fail
  refine (double_any A n c l k w4 (HD.out.1.later HB.out) D HQ.out.1 p HQ.out.2.1 70 HQ.out.2.2.1).mono ?_
  rintro e w5 ⟨va5, vc5, rfl, hT5, hB5⟩
  have HB5 : Hid (Below w.heap.size w w5) := Below.on HB.out hB5
  obtain rfl : p = 0 := HQ.out.2.2.2
  clear hT5 hB5 HB
  go_wp2_with fail
  refine (heads_any _).mono ?_
  rintro e w6 ⟨rfl, hB6⟩
  go_wp2_with fail
  go_ret
  exact ⟨rfl, Below.on HB5.out hB6⟩

set_option maxRecDepth 100000 in
set_option maxHeartbeats 4000000 in
theorem twice_2_0 (A : Option Addr) (n c : Nat) (l : List Dg) (k b : Int) (w : World) (S D : List Dg) (m p : Nat) (x : Dg) (HD : Hid (DatsAt w A n c l ∧ spoL l k b = S ∧ spoE l k b = 2)) (HP : Hid (l.length = n ∧ I64 b ∧ S.length = m ∧ True)) (HQ : Hid (dblL l k = D ∧ D.length = p ∧ dblE l k = 0 ∧ takeL D (n : Int) = l ∧ takeE D (n : Int) = 0 ∧ takeD D (n : Int) = x ∧ takeE l k = 0 ∧ takeD l k = x)) :
    Calls Try.prog 7 #[.slice A n c, .int .i64 k, .int .i64 b] w fun e w' => e = .returned (.bool true) ∧ Below w.heap.size w w' := by
  have c1 := spoil_any A n c l k b w HD.out.1 HP.out.2.1 S HD.out.2.1 m HP.out.2.2.1 2 HD.out.2.2
  go_enter Try.func7, Try.ntmps7
  go_wp2_with fail
  refine c1.mono ?_
  rintro e w1 ⟨va1, vc1, rfl, hT1, hB1⟩
  have HB : Hid (Below w.heap.size w w1) := hB1
  clear c1 hT1 hB1
  go_wp2_with fail
  refine (double_any A n c l k w1 (HD.out.1.later HB.out) D HQ.out.1 p HQ.out.2.1 0 HQ.out.2.2.1).mono ?_
  rintro e w5 ⟨va5, vc5, rfl, hT5, hB5⟩
  have HB5 : Hid (Below w.heap.size w w5) := Below.on HB.out hB5
  have c6 := take_any va5 p vc5 D (n : Int) w5 hT5 l HQ.out.2.2.2.1 n HP.out.1 0 HQ.out.2.2.2.2.1 x HQ.out.2.2.2.2.2.1
  clear hT5 hB5 HB
  go_wp2_with fail
  refine c6.mono ?_
  rintro e w6 ⟨da6, dc6, va6, vc6, rfl, hK6, hT6, hB6⟩
  have hb6 := below_more (Below.refl w6.heap.size w6) (.cells #[.slice da6 x.1.length dc6, .int .i64 x.2] 26)
  have HB6 : Hid (Below w.heap.size w (w6.alloc (.cells #[.slice da6 x.1.length dc6, .int .i64 x.2] 26))) := below_more (Below.on HB5.out hB6) _
  have HK6 : Hid (En.ok (w6.alloc (.cells #[.slice da6 x.1.length dc6, .int .i64 x.2] 26)) ⟨da6, dc6, x.1, x.2⟩ ∧ DatsAt (w6.alloc (.cells #[.slice da6 x.1.length dc6, .int .i64 x.2] 26)) va6 n vc6 l ∧ BoxD (w6.alloc (.cells #[.slice da6 x.1.length dc6, .int .i64 x.2] 26)) w6.heap.size (.slice da6 x.1.length dc6) (.int .i64 x.2)) := ⟨hK6.below hb6 (Nat.le_refl _), hT6.later hb6, BoxD.new _ _ _⟩
  have c7 := take_any A n c l k (w6.alloc (.cells #[.slice da6 x.1.length dc6, .int .i64 x.2] 26)) (HD.out.1.later HB6.out) (takeL l k) rfl _ rfl 0 HQ.out.2.2.2.2.2.2.1 x HQ.out.2.2.2.2.2.2.2
  obtain ⟨L7, hL7⟩ : ∃ L7, (takeL l k).length = L7 := ⟨_, rfl⟩
  rw [hL7] at c7
  clear c6 hK6 hT6 hB6 hb6 HB5 hL7
  go_wp2_with fail
  refine c7.mono ?_
  rintro e w7 ⟨da7, dc7, va7, vc7, rfl, hK7, hT7, hB7⟩
  have hb7 := below_more (Below.refl w7.heap.size w7) (.cells #[.slice da7 x.1.length dc7, .int .i64 x.2] 26)
  have hb67 := Below.on hB7 hb7
  have HB7 : Hid (Below w.heap.size w (w7.alloc (.cells #[.slice da7 x.1.length dc7, .int .i64 x.2] 26))) := Below.on HB6.out hb67
  have HK7 : Hid (En.ok (w7.alloc (.cells #[.slice da7 x.1.length dc7, .int .i64 x.2] 26)) ⟨da6, dc6, x.1, x.2⟩ ∧ En.ok (w7.alloc (.cells #[.slice da7 x.1.length dc7, .int .i64 x.2] 26)) ⟨da7, dc7, x.1, x.2⟩ ∧ BoxD (w7.alloc (.cells #[.slice da7 x.1.length dc7, .int .i64 x.2] 26)) w6.heap.size (.slice da6 x.1.length dc6) (.int .i64 x.2) ∧ BoxD (w7.alloc (.cells #[.slice da7 x.1.length dc7, .int .i64 x.2] 26)) w7.heap.size (.slice da7 x.1.length dc7) (.int .i64 x.2)) := ⟨HK6.out.1.below hb67 (Nat.le_refl _), hK7.below hb7 (Nat.le_refl _), HK6.out.2.2.later hb67, BoxD.new _ _ _⟩
  have c8 := refSame_any va6 A n n vc6 c l l (w7.alloc (.cells #[.slice da7 x.1.length dc7, .int .i64 x.2] 26)) (HK6.out.2.1.later hb67) (HD.out.1.later HB7.out) true (by simp)
  clear c7 hK7 hT7 hB7 hb7 hb67 HB6 HK6
  go_wp2_with fail
  refine c8.mono ?_
  rintro e w8 ⟨rfl, hB8⟩
  have HB8 : Hid (Below w.heap.size w w8) := Below.on HB7.out hB8
  have k0 := (HK7.out.2.2.1.later hB8).cell0
  have k1 := (HK7.out.2.2.1.later hB8).cell1
  have k2 := (HK7.out.2.2.2.later hB8).cell0
  have k3 := (HK7.out.2.2.2.later hB8).cell1
  have hx8 := HK7.out.1.below hB8 (Nat.le_refl _)
  have hy8 := HK7.out.2.1.below hB8 (Nat.le_refl _)
  have d1 := dats_one' w8 da6 dc6 x hx8
  have d2 := dats_one' (w8.alloc (.cells #[.slice da6 x.1.length dc6, .int .i64 x.2] 26)) da7 dc7 x (hy8.below (below_more (Below.refl _ _) _) (Nat.le_refl _))
  have c9 := refSame_any _ _ 1 1 1 1 [x] [x] ((w8.alloc (.cells #[.slice da6 x.1.length dc6, .int .i64 x.2] 26)).alloc (.cells #[.slice da7 x.1.length dc7, .int .i64 x.2] 26)) (d1.alloc _) d2 true (by simp)
  rw [World.size_alloc] at c9
  have HB9 : Hid (Below w.heap.size w ((w8.alloc (.cells #[.slice da6 x.1.length dc6, .int .i64 x.2] 26)).alloc (.cells #[.slice da7 x.1.length dc7, .int .i64 x.2] 26))) := below_more (below_more HB8.out _) _
  have h67 : w6.heap.size < w8.heap.size := (HK7.out.2.2.1.later hB8).lt
  have h78 : w7.heap.size < w8.heap.size := (HK7.out.2.2.2.later hB8).lt
  clear c8 hB8 HB7 HK7 hx8 hy8 d1 d2 HB8
  go_wp2_with fail
  refine c9.mono ?_
  rintro e w9 ⟨rfl, hB9⟩
  have HB10 : Hid (Below w.heap.size w w9) := Below.on HB9.out hB9
  clear c9 hB9 HB9
  go_wp2_with fail
  refine (heads_any _).mono ?_
  rintro e w10 ⟨rfl, hB10⟩
  go_wp2_with fail
  go_ret
  exact ⟨rfl, Below.on HB10.out hB10⟩

set_option maxRecDepth 100000 in
set_option maxHeartbeats 4000000 in
theorem twice_2_50 (A : Option Addr) (n c : Nat) (l : List Dg) (k b : Int) (w : World) (S D : List Dg) (m p : Nat) (x : Dg) (HD : Hid (DatsAt w A n c l ∧ spoL l k b = S ∧ spoE l k b = 2)) (HP : Hid (l.length = n ∧ I64 b ∧ S.length = m ∧ True)) (HQ : Hid (dblL l k = D ∧ D.length = p ∧ dblE l k = 50 ∧ p = 0)) :
    Calls Try.prog 7 #[.slice A n c, .int .i64 k, .int .i64 b] w fun e w' => e = .returned (.bool true) ∧ Below w.heap.size w w' := by
  have c1 := spoil_any A n c l k b w HD.out.1 HP.out.2.1 S HD.out.2.1 m HP.out.2.2.1 2 HD.out.2.2
  go_enter Try.func7, Try.ntmps7
  go_wp2_with fail
  refine c1.mono ?_
  rintro e w1 ⟨va1, vc1, rfl, hT1, hB1⟩
  have HB : Hid (Below w.heap.size w w1) := hB1
  clear c1 hT1 hB1
  go_wp2_with fail
  refine (double_any A n c l k w1 (HD.out.1.later HB.out) D HQ.out.1 p HQ.out.2.1 50 HQ.out.2.2.1).mono ?_
  rintro e w5 ⟨va5, vc5, rfl, hT5, hB5⟩
  have HB5 : Hid (Below w.heap.size w w5) := Below.on HB.out hB5
  obtain rfl : p = 0 := HQ.out.2.2.2
  clear hT5 hB5 HB
  go_wp2_with fail
  refine (heads_any _).mono ?_
  rintro e w6 ⟨rfl, hB6⟩
  go_wp2_with fail
  go_ret
  exact ⟨rfl, Below.on HB5.out hB6⟩

set_option maxRecDepth 100000 in
set_option maxHeartbeats 4000000 in
theorem twice_2_70 (A : Option Addr) (n c : Nat) (l : List Dg) (k b : Int) (w : World) (S D : List Dg) (m p : Nat) (x : Dg) (HD : Hid (DatsAt w A n c l ∧ spoL l k b = S ∧ spoE l k b = 2)) (HP : Hid (l.length = n ∧ I64 b ∧ S.length = m ∧ True)) (HQ : Hid (dblL l k = D ∧ D.length = p ∧ dblE l k = 70 ∧ p = 0)) :
    Calls Try.prog 7 #[.slice A n c, .int .i64 k, .int .i64 b] w fun e w' => e = .returned (.bool true) ∧ Below w.heap.size w w' := by
  have c1 := spoil_any A n c l k b w HD.out.1 HP.out.2.1 S HD.out.2.1 m HP.out.2.2.1 2 HD.out.2.2
  go_enter Try.func7, Try.ntmps7
  go_wp2_with fail
  refine c1.mono ?_
  rintro e w1 ⟨va1, vc1, rfl, hT1, hB1⟩
  have HB : Hid (Below w.heap.size w w1) := hB1
  clear c1 hT1 hB1
  go_wp2_with fail
  refine (double_any A n c l k w1 (HD.out.1.later HB.out) D HQ.out.1 p HQ.out.2.1 70 HQ.out.2.2.1).mono ?_
  rintro e w5 ⟨va5, vc5, rfl, hT5, hB5⟩
  have HB5 : Hid (Below w.heap.size w w5) := Below.on HB.out hB5
  obtain rfl : p = 0 := HQ.out.2.2.2
  clear hT5 hB5 HB
  go_wp2_with fail
  refine (heads_any _).mono ?_
  rintro e w6 ⟨rfl, hB6⟩
  go_wp2_with fail
  go_ret
  exact ⟨rfl, Below.on HB5.out hB6⟩

set_option maxRecDepth 100000 in
set_option maxHeartbeats 4000000 in
theorem twice_50_0 (A : Option Addr) (n c : Nat) (l : List Dg) (k b : Int) (w : World) (S D : List Dg) (m p : Nat) (x : Dg) (HD : Hid (DatsAt w A n c l ∧ spoL l k b = S ∧ spoE l k b = 50)) (HP : Hid (l.length = n ∧ I64 b ∧ S.length = m ∧ True)) (HQ : Hid (dblL l k = D ∧ D.length = p ∧ dblE l k = 0 ∧ takeL D (n : Int) = l ∧ takeE D (n : Int) = 0 ∧ takeD D (n : Int) = x ∧ takeE l k = 0 ∧ takeD l k = x)) :
    Calls Try.prog 7 #[.slice A n c, .int .i64 k, .int .i64 b] w fun e w' => e = .returned (.bool true) ∧ Below w.heap.size w w' := by
  have c1 := spoil_any A n c l k b w HD.out.1 HP.out.2.1 S HD.out.2.1 m HP.out.2.2.1 50 HD.out.2.2
  go_enter Try.func7, Try.ntmps7
  go_wp2_with fail
  refine c1.mono ?_
  rintro e w1 ⟨va1, vc1, rfl, hT1, hB1⟩
  have HB : Hid (Below w.heap.size w w1) := hB1
  clear c1 hT1 hB1
  go_wp2_with fail
  refine (double_any A n c l k w1 (HD.out.1.later HB.out) D HQ.out.1 p HQ.out.2.1 0 HQ.out.2.2.1).mono ?_
  rintro e w5 ⟨va5, vc5, rfl, hT5, hB5⟩
  have HB5 : Hid (Below w.heap.size w w5) := Below.on HB.out hB5
  have c6 := take_any va5 p vc5 D (n : Int) w5 hT5 l HQ.out.2.2.2.1 n HP.out.1 0 HQ.out.2.2.2.2.1 x HQ.out.2.2.2.2.2.1
  clear hT5 hB5 HB
  go_wp2_with fail
  refine c6.mono ?_
  rintro e w6 ⟨da6, dc6, va6, vc6, rfl, hK6, hT6, hB6⟩
  have hb6 := below_more (Below.refl w6.heap.size w6) (.cells #[.slice da6 x.1.length dc6, .int .i64 x.2] 26)
  have HB6 : Hid (Below w.heap.size w (w6.alloc (.cells #[.slice da6 x.1.length dc6, .int .i64 x.2] 26))) := below_more (Below.on HB5.out hB6) _
  have HK6 : Hid (En.ok (w6.alloc (.cells #[.slice da6 x.1.length dc6, .int .i64 x.2] 26)) ⟨da6, dc6, x.1, x.2⟩ ∧ DatsAt (w6.alloc (.cells #[.slice da6 x.1.length dc6, .int .i64 x.2] 26)) va6 n vc6 l ∧ BoxD (w6.alloc (.cells #[.slice da6 x.1.length dc6, .int .i64 x.2] 26)) w6.heap.size (.slice da6 x.1.length dc6) (.int .i64 x.2)) := ⟨hK6.below hb6 (Nat.le_refl _), hT6.later hb6, BoxD.new _ _ _⟩
  have c7 := take_any A n c l k (w6.alloc (.cells #[.slice da6 x.1.length dc6, .int .i64 x.2] 26)) (HD.out.1.later HB6.out) (takeL l k) rfl _ rfl 0 HQ.out.2.2.2.2.2.2.1 x HQ.out.2.2.2.2.2.2.2
  obtain ⟨L7, hL7⟩ : ∃ L7, (takeL l k).length = L7 := ⟨_, rfl⟩
  rw [hL7] at c7
  clear c6 hK6 hT6 hB6 hb6 HB5 hL7
  go_wp2_with fail
  refine c7.mono ?_
  rintro e w7 ⟨da7, dc7, va7, vc7, rfl, hK7, hT7, hB7⟩
  have hb7 := below_more (Below.refl w7.heap.size w7) (.cells #[.slice da7 x.1.length dc7, .int .i64 x.2] 26)
  have hb67 := Below.on hB7 hb7
  have HB7 : Hid (Below w.heap.size w (w7.alloc (.cells #[.slice da7 x.1.length dc7, .int .i64 x.2] 26))) := Below.on HB6.out hb67
  have HK7 : Hid (En.ok (w7.alloc (.cells #[.slice da7 x.1.length dc7, .int .i64 x.2] 26)) ⟨da6, dc6, x.1, x.2⟩ ∧ En.ok (w7.alloc (.cells #[.slice da7 x.1.length dc7, .int .i64 x.2] 26)) ⟨da7, dc7, x.1, x.2⟩ ∧ BoxD (w7.alloc (.cells #[.slice da7 x.1.length dc7, .int .i64 x.2] 26)) w6.heap.size (.slice da6 x.1.length dc6) (.int .i64 x.2) ∧ BoxD (w7.alloc (.cells #[.slice da7 x.1.length dc7, .int .i64 x.2] 26)) w7.heap.size (.slice da7 x.1.length dc7) (.int .i64 x.2)) := ⟨HK6.out.1.below hb67 (Nat.le_refl _), hK7.below hb7 (Nat.le_refl _), HK6.out.2.2.later hb67, BoxD.new _ _ _⟩
  have c8 := refSame_any va6 A n n vc6 c l l (w7.alloc (.cells #[.slice da7 x.1.length dc7, .int .i64 x.2] 26)) (HK6.out.2.1.later hb67) (HD.out.1.later HB7.out) true (by simp)
  clear c7 hK7 hT7 hB7 hb7 hb67 HB6 HK6
  go_wp2_with fail
  refine c8.mono ?_
  rintro e w8 ⟨rfl, hB8⟩
  have HB8 : Hid (Below w.heap.size w w8) := Below.on HB7.out hB8
  have k0 := (HK7.out.2.2.1.later hB8).cell0
  have k1 := (HK7.out.2.2.1.later hB8).cell1
  have k2 := (HK7.out.2.2.2.later hB8).cell0
  have k3 := (HK7.out.2.2.2.later hB8).cell1
  have hx8 := HK7.out.1.below hB8 (Nat.le_refl _)
  have hy8 := HK7.out.2.1.below hB8 (Nat.le_refl _)
  have d1 := dats_one' w8 da6 dc6 x hx8
  have d2 := dats_one' (w8.alloc (.cells #[.slice da6 x.1.length dc6, .int .i64 x.2] 26)) da7 dc7 x (hy8.below (below_more (Below.refl _ _) _) (Nat.le_refl _))
  have c9 := refSame_any _ _ 1 1 1 1 [x] [x] ((w8.alloc (.cells #[.slice da6 x.1.length dc6, .int .i64 x.2] 26)).alloc (.cells #[.slice da7 x.1.length dc7, .int .i64 x.2] 26)) (d1.alloc _) d2 true (by simp)
  rw [World.size_alloc] at c9
  have HB9 : Hid (Below w.heap.size w ((w8.alloc (.cells #[.slice da6 x.1.length dc6, .int .i64 x.2] 26)).alloc (.cells #[.slice da7 x.1.length dc7, .int .i64 x.2] 26))) := below_more (below_more HB8.out _) _
  have h67 : w6.heap.size < w8.heap.size := (HK7.out.2.2.1.later hB8).lt
  have h78 : w7.heap.size < w8.heap.size := (HK7.out.2.2.2.later hB8).lt
  clear c8 hB8 HB7 HK7 hx8 hy8 d1 d2 HB8
  go_wp2_with fail
  refine c9.mono ?_
  rintro e w9 ⟨rfl, hB9⟩
  have HB10 : Hid (Below w.heap.size w w9) := Below.on HB9.out hB9
  clear c9 hB9 HB9
  go_wp2_with fail
  refine (heads_any _).mono ?_
  rintro e w10 ⟨rfl, hB10⟩
  go_wp2_with fail
  go_ret
  exact ⟨rfl, Below.on HB10.out hB10⟩

set_option maxRecDepth 100000 in
set_option maxHeartbeats 4000000 in
theorem twice_50_50 (A : Option Addr) (n c : Nat) (l : List Dg) (k b : Int) (w : World) (S D : List Dg) (m p : Nat) (x : Dg) (HD : Hid (DatsAt w A n c l ∧ spoL l k b = S ∧ spoE l k b = 50)) (HP : Hid (l.length = n ∧ I64 b ∧ S.length = m ∧ True)) (HQ : Hid (dblL l k = D ∧ D.length = p ∧ dblE l k = 50 ∧ p = 0)) :
    Calls Try.prog 7 #[.slice A n c, .int .i64 k, .int .i64 b] w fun e w' => e = .returned (.bool true) ∧ Below w.heap.size w w' := by
  have c1 := spoil_any A n c l k b w HD.out.1 HP.out.2.1 S HD.out.2.1 m HP.out.2.2.1 50 HD.out.2.2
  go_enter Try.func7, Try.ntmps7
  go_wp2_with fail
  refine c1.mono ?_
  rintro e w1 ⟨va1, vc1, rfl, hT1, hB1⟩
  have HB : Hid (Below w.heap.size w w1) := hB1
  clear c1 hT1 hB1
  go_wp2_with fail
  refine (double_any A n c l k w1 (HD.out.1.later HB.out) D HQ.out.1 p HQ.out.2.1 50 HQ.out.2.2.1).mono ?_
  rintro e w5 ⟨va5, vc5, rfl, hT5, hB5⟩
  have HB5 : Hid (Below w.heap.size w w5) := Below.on HB.out hB5
  obtain rfl : p = 0 := HQ.out.2.2.2
  clear hT5 hB5 HB
  go_wp2_with fail
  refine (heads_any _).mono ?_
  rintro e w6 ⟨rfl, hB6⟩
  go_wp2_with fail
  go_ret
  exact ⟨rfl, Below.on HB5.out hB6⟩

set_option maxRecDepth 100000 in
set_option maxHeartbeats 4000000 in
theorem twice_50_70 (A : Option Addr) (n c : Nat) (l : List Dg) (k b : Int) (w : World) (S D : List Dg) (m p : Nat) (x : Dg) (HD : Hid (DatsAt w A n c l ∧ spoL l k b = S ∧ spoE l k b = 50)) (HP : Hid (l.length = n ∧ I64 b ∧ S.length = m ∧ True)) (HQ : Hid (dblL l k = D ∧ D.length = p ∧ dblE l k = 70 ∧ p = 0)) :
    Calls Try.prog 7 #[.slice A n c, .int .i64 k, .int .i64 b] w fun e w' => e = .returned (.bool true) ∧ Below w.heap.size w w' := by
  have c1 := spoil_any A n c l k b w HD.out.1 HP.out.2.1 S HD.out.2.1 m HP.out.2.2.1 50 HD.out.2.2
  go_enter Try.func7, Try.ntmps7
  go_wp2_with fail
  refine c1.mono ?_
  rintro e w1 ⟨va1, vc1, rfl, hT1, hB1⟩
  have HB : Hid (Below w.heap.size w w1) := hB1
  clear c1 hT1 hB1
  go_wp2_with fail
  refine (double_any A n c l k w1 (HD.out.1.later HB.out) D HQ.out.1 p HQ.out.2.1 70 HQ.out.2.2.1).mono ?_
  rintro e w5 ⟨va5, vc5, rfl, hT5, hB5⟩
  have HB5 : Hid (Below w.heap.size w w5) := Below.on HB.out hB5
  obtain rfl : p = 0 := HQ.out.2.2.2
  clear hT5 hB5 HB
  go_wp2_with fail
  refine (heads_any _).mono ?_
  rintro e w6 ⟨rfl, hB6⟩
  go_wp2_with fail
  go_ret
  exact ⟨rfl, Below.on HB5.out hB6⟩

theorem twice_walk (A : Option Addr) (n c : Nat) (l : List Dg) (k b : Int) (w : World) (hD : DatsAt w A n c l) (hk : I64 k) (hb : I64 b) :
    Calls Try.prog 7 #[.slice A n c, .int .i64 k, .int .i64 b] w fun e w' => e = .returned (.bool true) ∧ Below w.heap.size w w' := by
  have hln := hD.len
  have hl : ∀ x ∈ l, Byts x.1 := fun x hx => (hD.all x hx).1
  rcases spo_cases l k b with hr | hr | hr
  · obtain ⟨t1, t2, t3, t4⟩ := spo_twice hl hr
    rcases dbl_cases l k with ⟨hg, hp, hd⟩ | ⟨hg, hd⟩ | ⟨hg, hd⟩
    · exact twice_0_0 A n c l k b w _ (l ++ [l[k.toNat]?.getD z0]) _ _ (l[k.toNat]?.getD z0) ⟨hD, rfl, hr⟩ ⟨hln, hb, rfl, hln, t1, t2, t3⟩ ⟨hd, rfl, hg, (take_back hln).1, (take_back hln).2.2, (take_back hln).2.1, by rw [takeE, hp]; rfl, by rw [takeD, hp]; rfl⟩
    · exact twice_0_50 A n c l k b w _ [] _ 0 z0 ⟨hD, rfl, hr⟩ ⟨hln, hb, rfl, hln, t1, t2, t3⟩ ⟨hd, rfl, hg, rfl⟩
    · exact twice_0_70 A n c l k b w _ [] _ 0 z0 ⟨hD, rfl, hr⟩ ⟨hln, hb, rfl, hln, t1, t2, t3⟩ ⟨hd, rfl, hg, rfl⟩
  · rcases dbl_cases l k with ⟨hg, hp, hd⟩ | ⟨hg, hd⟩ | ⟨hg, hd⟩
    · exact twice_2_0 A n c l k b w _ (l ++ [l[k.toNat]?.getD z0]) _ _ (l[k.toNat]?.getD z0) ⟨hD, rfl, hr⟩ ⟨hln, hb, rfl, trivial⟩ ⟨hd, rfl, hg, (take_back hln).1, (take_back hln).2.2, (take_back hln).2.1, by rw [takeE, hp]; rfl, by rw [takeD, hp]; rfl⟩
    · exact twice_2_50 A n c l k b w _ [] _ 0 z0 ⟨hD, rfl, hr⟩ ⟨hln, hb, rfl, trivial⟩ ⟨hd, rfl, hg, rfl⟩
    · exact twice_2_70 A n c l k b w _ [] _ 0 z0 ⟨hD, rfl, hr⟩ ⟨hln, hb, rfl, trivial⟩ ⟨hd, rfl, hg, rfl⟩
  · rcases dbl_cases l k with ⟨hg, hp, hd⟩ | ⟨hg, hd⟩ | ⟨hg, hd⟩
    · exact twice_50_0 A n c l k b w _ (l ++ [l[k.toNat]?.getD z0]) _ _ (l[k.toNat]?.getD z0) ⟨hD, rfl, hr⟩ ⟨hln, hb, rfl, trivial⟩ ⟨hd, rfl, hg, (take_back hln).1, (take_back hln).2.2, (take_back hln).2.1, by rw [takeE, hp]; rfl, by rw [takeD, hp]; rfl⟩
    · exact twice_50_50 A n c l k b w _ [] _ 0 z0 ⟨hD, rfl, hr⟩ ⟨hln, hb, rfl, trivial⟩ ⟨hd, rfl, hg, rfl⟩
    · exact twice_50_70 A n c l k b w _ [] _ 0 z0 ⟨hD, rfl, hr⟩ ⟨hln, hb, rfl, trivial⟩ ⟨hd, rfl, hg, rfl⟩
end Go.Proofs.Ytkbgpbhlcmainaa
