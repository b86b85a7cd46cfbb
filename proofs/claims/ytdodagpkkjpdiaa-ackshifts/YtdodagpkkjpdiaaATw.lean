/- The contract of isTwice. -/
import Derived.Test.YtdodagpkkjpdiaaABase
import Derived.Deep.Quiet
namespace Go.Proofs.Ytdodagpkkjpdiaa
open Go.ChangeShapes Go.WideShapes Go.ChangeAt Go.RowKit Go.Shelf
set_option linter.unusedVariables false
set_option linter.unusedSimpArgs false
attribute [local go_sem] Oper.semAt_some


theorem tw_none (A : Option Addr) (c : Nat) (x : Int) (w : World) : Calls Try.prog 23 #[.slice A 0 c, .int .i64 x] w fun e w' => e = .returned (.bool false) ∧ Below w.heap.size w w' := by
  go_enter Try.func23, Try.ntmps23
  go_wp2_with fail
  go_ret
  exact ⟨rfl, Below.refl _ _⟩

set_option maxRecDepth 100000 in
set_option maxHeartbeats 4000000 in
theorem tw_yes (kb ko n c : Nat) (p q x : Int) (hn : 0 < n) (ha : decide (p < q) = true) (hb : decide (q ≤ x) = true) (w : World) (h0 : w.cell? ⟨kb, ko, none⟩ = some (.int .i64 p)) (h1 : w.cell? ⟨kb, ko + 1, none⟩ = some (.int .i64 q)) : Calls Try.prog 23 #[.slice (some ⟨kb, ko, none⟩) n c, .int .i64 x] w fun e w' => e = .returned (.bool true) ∧ Below w.heap.size w w' := by
  have hn0 : ¬ n = 0 := by omega
  go_enter Try.func23, Try.ntmps23
  go_upto_region 4 with fail
  obtain ⟨X, hX⟩ : ∃ X, w.alloc (.cells #[.int .i64 p, .int .i64 q] 83) = X := ⟨_, rfl⟩
  have bX : Below w.heap.size w X := by rw [← hX]; exact below_more (Below.refl _ _) _
  have xX : Box X w.heap.size 83 [.int .i64 p, .int .i64 q] := by rw [← hX]; exact Box.new w 83 [.int .i64 p, .int .i64 q]
  rw [hX]
  have HB : Hid (Below w.heap.size w X) := bX
  have x0 := Box.cell xX 0 rfl
  have x1 := Box.cell xX 1 rfl
  clear hX bX xX h0 h1
  go_wp2_with fail
  go_ret
  exact ⟨rfl, HB.out⟩

set_option maxRecDepth 100000 in
set_option maxHeartbeats 4000000 in
theorem tw_a0 (kb ko n c : Nat) (p q x : Int) (ha : decide (p < q) = false) (hn : n = 1) (w : World) (h0 : w.cell? ⟨kb, ko, none⟩ = some (.int .i64 p)) (h1 : w.cell? ⟨kb, ko + 1, none⟩ = some (.int .i64 q)) : Calls Try.prog 23 #[.slice (some ⟨kb, ko, none⟩) n c, .int .i64 x] w fun e w' => e = .returned (.bool false) ∧ Below w.heap.size w w' := by
  subst hn
  go_enter Try.func23, Try.ntmps23
  go_upto_region 4 with fail
  obtain ⟨X, hX⟩ : ∃ X, w.alloc (.cells #[.int .i64 p, .int .i64 q] 83) = X := ⟨_, rfl⟩
  have bX : Below w.heap.size w X := by rw [← hX]; exact below_more (Below.refl _ _) _
  have xX : Box X w.heap.size 83 [.int .i64 p, .int .i64 q] := by rw [← hX]; exact Box.new w 83 [.int .i64 p, .int .i64 q]
  rw [hX]
  have HB : Hid (Below w.heap.size w X) := bX
  have x0 := Box.cell xX 0 rfl
  have x1 := Box.cell xX 1 rfl
  clear hX bX xX h0 h1
  go_upto_region 6 with fail
  go_quiet (fail)
  go_wp2_with fail
  go_ret
  exact ⟨rfl, below_drewN HB.out _⟩

set_option maxRecDepth 100000 in
set_option maxHeartbeats 4000000 in
theorem tw_a1 (kb ko n c : Nat) (p q x : Int) (ha : decide (p < q) = false) (hn : 1 < n) (r t : Int) (hc : decide (r ≤ p) = false) (w : World) (h0 : w.cell? ⟨kb, ko, none⟩ = some (.int .i64 p)) (h1 : w.cell? ⟨kb, ko + 1, none⟩ = some (.int .i64 q)) (h2 : w.cell? ⟨kb, ko + 2, none⟩ = some (.int .i64 r)) (h3 : w.cell? ⟨kb, ko + 3, none⟩ = some (.int .i64 t)) : Calls Try.prog 23 #[.slice (some ⟨kb, ko, none⟩) n c, .int .i64 x] w fun e w' => e = .returned (.bool false) ∧ Below w.heap.size w w' := by
  have hn0 : ¬ n = 0 := by omega
  have hn1 : ((n : Nat) : Int) > 1 := by omega
  have hn2 : (1 : Int) < (n : Int) := by omega
  go_enter Try.func23, Try.ntmps23
  go_upto_region 4 with fail
  obtain ⟨X, hX⟩ : ∃ X, w.alloc (.cells #[.int .i64 p, .int .i64 q] 83) = X := ⟨_, rfl⟩
  have bX : Below w.heap.size w X := by rw [← hX]; exact below_more (Below.refl _ _) _
  have xX : Box X w.heap.size 83 [.int .i64 p, .int .i64 q] := by rw [← hX]; exact Box.new w 83 [.int .i64 p, .int .i64 q]
  rw [hX]
  have HB : Hid (Below w.heap.size w X) := bX
  have x0 := Box.cell xX 0 rfl
  have x1 := Box.cell xX 1 rfl
  have y2 : X.cell? ⟨kb, ko + 2, none⟩ = some (.int .i64 r) := (bX.cell (p := ⟨kb, ko + 2, none⟩) (lt_of_cell h2)).trans h2
  have y3 : X.cell? ⟨kb, ko + 2 + 1, none⟩ = some (.int .i64 t) := (bX.cell (p := ⟨kb, ko + 3, none⟩) (lt_of_cell h3)).trans h3
  clear hX bX xX h0 h1 h2 h3
  go_upto_region 6 with fail
  go_quiet (fail)
  go_wp2_with fail
  go_ret
  exact ⟨rfl, below_drewN HB.out _⟩

set_option maxRecDepth 100000 in
set_option maxHeartbeats 4000000 in
theorem tw_a2 (kb ko n c : Nat) (p q x : Int) (ha : decide (p < q) = false) (hn : 1 < n) (r t : Int) (hc : decide (r ≤ p) = true) (hd : decide (q ≤ t) = false) (w : World) (h0 : w.cell? ⟨kb, ko, none⟩ = some (.int .i64 p)) (h1 : w.cell? ⟨kb, ko + 1, none⟩ = some (.int .i64 q)) (h2 : w.cell? ⟨kb, ko + 2, none⟩ = some (.int .i64 r)) (h3 : w.cell? ⟨kb, ko + 3, none⟩ = some (.int .i64 t)) : Calls Try.prog 23 #[.slice (some ⟨kb, ko, none⟩) n c, .int .i64 x] w fun e w' => e = .returned (.bool false) ∧ Below w.heap.size w w' := by
  have hn0 : ¬ n = 0 := by omega
  have hn1 : ((n : Nat) : Int) > 1 := by omega
  have hn2 : (1 : Int) < (n : Int) := by omega
  go_enter Try.func23, Try.ntmps23
  go_upto_region 4 with fail
  obtain ⟨X, hX⟩ : ∃ X, w.alloc (.cells #[.int .i64 p, .int .i64 q] 83) = X := ⟨_, rfl⟩
  have bX : Below w.heap.size w X := by rw [← hX]; exact below_more (Below.refl _ _) _
  have xX : Box X w.heap.size 83 [.int .i64 p, .int .i64 q] := by rw [← hX]; exact Box.new w 83 [.int .i64 p, .int .i64 q]
  rw [hX]
  have HB : Hid (Below w.heap.size w X) := bX
  have x0 := Box.cell xX 0 rfl
  have x1 := Box.cell xX 1 rfl
  have y2 : X.cell? ⟨kb, ko + 2, none⟩ = some (.int .i64 r) := (bX.cell (p := ⟨kb, ko + 2, none⟩) (lt_of_cell h2)).trans h2
  have y3 : X.cell? ⟨kb, ko + 2 + 1, none⟩ = some (.int .i64 t) := (bX.cell (p := ⟨kb, ko + 3, none⟩) (lt_of_cell h3)).trans h3
  clear hX bX xX h0 h1 h2 h3
  go_upto_region 6 with fail
  go_quiet (fail)
  go_wp2_with fail
  go_ret
  exact ⟨rfl, below_drewN HB.out _⟩

set_option maxRecDepth 100000 in
set_option maxHeartbeats 4000000 in
theorem tw_a3 (kb ko n c : Nat) (p q x : Int) (ha : decide (p < q) = false) (hn : 1 < n) (r t : Int) (hc : decide (r ≤ p) = true) (hd : decide (q ≤ t) = true) (w : World) (h0 : w.cell? ⟨kb, ko, none⟩ = some (.int .i64 p)) (h1 : w.cell? ⟨kb, ko + 1, none⟩ = some (.int .i64 q)) (h2 : w.cell? ⟨kb, ko + 2, none⟩ = some (.int .i64 r)) (h3 : w.cell? ⟨kb, ko + 3, none⟩ = some (.int .i64 t)) : Calls Try.prog 23 #[.slice (some ⟨kb, ko, none⟩) n c, .int .i64 x] w fun e w' => e = .returned (.bool true) ∧ Below w.heap.size w w' := by
  have hn0 : ¬ n = 0 := by omega
  have hn1 : ((n : Nat) : Int) > 1 := by omega
  have hn2 : (1 : Int) < (n : Int) := by omega
  go_enter Try.func23, Try.ntmps23
  go_upto_region 4 with fail
  obtain ⟨X, hX⟩ : ∃ X, w.alloc (.cells #[.int .i64 p, .int .i64 q] 83) = X := ⟨_, rfl⟩
  have bX : Below w.heap.size w X := by rw [← hX]; exact below_more (Below.refl _ _) _
  have xX : Box X w.heap.size 83 [.int .i64 p, .int .i64 q] := by rw [← hX]; exact Box.new w 83 [.int .i64 p, .int .i64 q]
  rw [hX]
  have HB : Hid (Below w.heap.size w X) := bX
  have x0 := Box.cell xX 0 rfl
  have x1 := Box.cell xX 1 rfl
  have y2 : X.cell? ⟨kb, ko + 2, none⟩ = some (.int .i64 r) := (bX.cell (p := ⟨kb, ko + 2, none⟩) (lt_of_cell h2)).trans h2
  have y3 : X.cell? ⟨kb, ko + 2 + 1, none⟩ = some (.int .i64 t) := (bX.cell (p := ⟨kb, ko + 3, none⟩) (lt_of_cell h3)).trans h3
  clear hX bX xX h0 h1 h2 h3
  go_upto_region 6 with fail
  go_quiet (fail)
  go_wp2_with fail
  go_ret
  exact ⟨rfl, below_drewN HB.out _⟩

set_option maxRecDepth 100000 in
set_option maxHeartbeats 4000000 in
theorem tw_b0 (kb ko n c : Nat) (p q x : Int) (ha : decide (p < q) = true) (hb : decide (q ≤ x) = false) (hn : n = 1) (w : World) (h0 : w.cell? ⟨kb, ko, none⟩ = some (.int .i64 p)) (h1 : w.cell? ⟨kb, ko + 1, none⟩ = some (.int .i64 q)) : Calls Try.prog 23 #[.slice (some ⟨kb, ko, none⟩) n c, .int .i64 x] w fun e w' => e = .returned (.bool false) ∧ Below w.heap.size w w' := by
  subst hn
  go_enter Try.func23, Try.ntmps23
  go_upto_region 4 with fail
  obtain ⟨X, hX⟩ : ∃ X, w.alloc (.cells #[.int .i64 p, .int .i64 q] 83) = X := ⟨_, rfl⟩
  have bX : Below w.heap.size w X := by rw [← hX]; exact below_more (Below.refl _ _) _
  have xX : Box X w.heap.size 83 [.int .i64 p, .int .i64 q] := by rw [← hX]; exact Box.new w 83 [.int .i64 p, .int .i64 q]
  rw [hX]
  have HB : Hid (Below w.heap.size w X) := bX
  have x0 := Box.cell xX 0 rfl
  have x1 := Box.cell xX 1 rfl
  clear hX bX xX h0 h1
  go_upto_region 6 with fail
  go_quiet (fail)
  go_wp2_with fail
  go_ret
  exact ⟨rfl, below_drewN HB.out _⟩

set_option maxRecDepth 100000 in
set_option maxHeartbeats 4000000 in
theorem tw_b1 (kb ko n c : Nat) (p q x : Int) (ha : decide (p < q) = true) (hb : decide (q ≤ x) = false) (hn : 1 < n) (r t : Int) (hc : decide (r ≤ p) = false) (w : World) (h0 : w.cell? ⟨kb, ko, none⟩ = some (.int .i64 p)) (h1 : w.cell? ⟨kb, ko + 1, none⟩ = some (.int .i64 q)) (h2 : w.cell? ⟨kb, ko + 2, none⟩ = some (.int .i64 r)) (h3 : w.cell? ⟨kb, ko + 3, none⟩ = some (.int .i64 t)) : Calls Try.prog 23 #[.slice (some ⟨kb, ko, none⟩) n c, .int .i64 x] w fun e w' => e = .returned (.bool false) ∧ Below w.heap.size w w' := by
  have hn0 : ¬ n = 0 := by omega
  have hn1 : ((n : Nat) : Int) > 1 := by omega
  have hn2 : (1 : Int) < (n : Int) := by omega
  go_enter Try.func23, Try.ntmps23
  go_upto_region 4 with fail
  obtain ⟨X, hX⟩ : ∃ X, w.alloc (.cells #[.int .i64 p, .int .i64 q] 83) = X := ⟨_, rfl⟩
  have bX : Below w.heap.size w X := by rw [← hX]; exact below_more (Below.refl _ _) _
  have xX : Box X w.heap.size 83 [.int .i64 p, .int .i64 q] := by rw [← hX]; exact Box.new w 83 [.int .i64 p, .int .i64 q]
  rw [hX]
  have HB : Hid (Below w.heap.size w X) := bX
  have x0 := Box.cell xX 0 rfl
  have x1 := Box.cell xX 1 rfl
  have y2 : X.cell? ⟨kb, ko + 2, none⟩ = some (.int .i64 r) := (bX.cell (p := ⟨kb, ko + 2, none⟩) (lt_of_cell h2)).trans h2
  have y3 : X.cell? ⟨kb, ko + 2 + 1, none⟩ = some (.int .i64 t) := (bX.cell (p := ⟨kb, ko + 3, none⟩) (lt_of_cell h3)).trans h3
  clear hX bX xX h0 h1 h2 h3
  go_upto_region 6 with fail
  go_quiet (fail)
  go_wp2_with fail
  go_ret
  exact ⟨rfl, below_drewN HB.out _⟩

set_option maxRecDepth 100000 in
set_option maxHeartbeats 4000000 in
theorem tw_b2 (kb ko n c : Nat) (p q x : Int) (ha : decide (p < q) = true) (hb : decide (q ≤ x) = false) (hn : 1 < n) (r t : Int) (hc : decide (r ≤ p) = true) (hd : decide (q ≤ t) = false) (w : World) (h0 : w.cell? ⟨kb, ko, none⟩ = some (.int .i64 p)) (h1 : w.cell? ⟨kb, ko + 1, none⟩ = some (.int .i64 q)) (h2 : w.cell? ⟨kb, ko + 2, none⟩ = some (.int .i64 r)) (h3 : w.cell? ⟨kb, ko + 3, none⟩ = some (.int .i64 t)) : Calls Try.prog 23 #[.slice (some ⟨kb, ko, none⟩) n c, .int .i64 x] w fun e w' => e = .returned (.bool false) ∧ Below w.heap.size w w' := by
  have hn0 : ¬ n = 0 := by omega
  have hn1 : ((n : Nat) : Int) > 1 := by omega
  have hn2 : (1 : Int) < (n : Int) := by omega
  go_enter Try.func23, Try.ntmps23
  go_upto_region 4 with fail
  obtain ⟨X, hX⟩ : ∃ X, w.alloc (.cells #[.int .i64 p, .int .i64 q] 83) = X := ⟨_, rfl⟩
  have bX : Below w.heap.size w X := by rw [← hX]; exact below_more (Below.refl _ _) _
  have xX : Box X w.heap.size 83 [.int .i64 p, .int .i64 q] := by rw [← hX]; exact Box.new w 83 [.int .i64 p, .int .i64 q]
  rw [hX]
  have HB : Hid (Below w.heap.size w X) := bX
  have x0 := Box.cell xX 0 rfl
  have x1 := Box.cell xX 1 rfl
  have y2 : X.cell? ⟨kb, ko + 2, none⟩ = some (.int .i64 r) := (bX.cell (p := ⟨kb, ko + 2, none⟩) (lt_of_cell h2)).trans h2
  have y3 : X.cell? ⟨kb, ko + 2 + 1, none⟩ = some (.int .i64 t) := (bX.cell (p := ⟨kb, ko + 3, none⟩) (lt_of_cell h3)).trans h3
  clear hX bX xX h0 h1 h2 h3
  go_upto_region 6 with fail
  go_quiet (fail)
  go_wp2_with fail
  go_ret
  exact ⟨rfl, below_drewN HB.out _⟩

set_option maxRecDepth 100000 in
set_option maxHeartbeats 4000000 in
theorem tw_b3 (kb ko n c : Nat) (p q x : Int) (ha : decide (p < q) = true) (hb : decide (q ≤ x) = false) (hn : 1 < n) (r t : Int) (hc : decide (r ≤ p) = true) (hd : decide (q ≤ t) = true) (w : World) (h0 : w.cell? ⟨kb, ko, none⟩ = some (.int .i64 p)) (h1 : w.cell? ⟨kb, ko + 1, none⟩ = some (.int .i64 q)) (h2 : w.cell? ⟨kb, ko + 2, none⟩ = some (.int .i64 r)) (h3 : w.cell? ⟨kb, ko + 3, none⟩ = some (.int .i64 t)) : Calls Try.prog 23 #[.slice (some ⟨kb, ko, none⟩) n c, .int .i64 x] w fun e w' => e = .returned (.bool true) ∧ Below w.heap.size w w' := by
  have hn0 : ¬ n = 0 := by omega
  have hn1 : ((n : Nat) : Int) > 1 := by omega
  have hn2 : (1 : Int) < (n : Int) := by omega
  go_enter Try.func23, Try.ntmps23
  go_upto_region 4 with fail
  obtain ⟨X, hX⟩ : ∃ X, w.alloc (.cells #[.int .i64 p, .int .i64 q] 83) = X := ⟨_, rfl⟩
  have bX : Below w.heap.size w X := by rw [← hX]; exact below_more (Below.refl _ _) _
  have xX : Box X w.heap.size 83 [.int .i64 p, .int .i64 q] := by rw [← hX]; exact Box.new w 83 [.int .i64 p, .int .i64 q]
  rw [hX]
  have HB : Hid (Below w.heap.size w X) := bX
  have x0 := Box.cell xX 0 rfl
  have x1 := Box.cell xX 1 rfl
  have y2 : X.cell? ⟨kb, ko + 2, none⟩ = some (.int .i64 r) := (bX.cell (p := ⟨kb, ko + 2, none⟩) (lt_of_cell h2)).trans h2
  have y3 : X.cell? ⟨kb, ko + 2 + 1, none⟩ = some (.int .i64 t) := (bX.cell (p := ⟨kb, ko + 3, none⟩) (lt_of_cell h3)).trans h3
  clear hX bX xX h0 h1 h2 h3
  go_upto_region 6 with fail
  go_quiet (fail)
  go_wp2_with fail
  go_ret
  exact ⟨rfl, below_drewN HB.out _⟩

theorem twice_is (l : List Tm) (A : Option Addr) (c : Nat) (x : Int) (w : World) (hT : TimsAt w A l) (n : Nat) (hn : l.length = n) : Calls Try.prog 23 #[.slice A n c, .int .i64 x] w fun e w' => e = .returned (.bool (Ak.twB x l)) ∧ Below w.heap.size w w' := by
  subst hn
  cases l with
  | nil => exact tw_none A c x w
  | cons b r =>
    obtain ⟨kb, ko, rfl, h0, h1⟩ := hT.2 0 (by simp)
    simp only [Nat.zero_mul, Nat.add_zero, Nat.zero_add, List.getElem?_cons_zero, Option.getD_some] at h0 h1
    show Calls Try.prog 23 _ w fun e w' => e = .returned (.bool ((decide (b.1 < b.2) && decide (b.2 ≤ x)) || Ak.secB b r)) ∧ _
    cases ha : decide (b.1 < b.2) with
    | false =>
      cases r with
      | nil => exact tw_a0 kb ko _ c b.1 b.2 x ha rfl w h0 h1
      | cons d r =>
        obtain ⟨kb', ko', e, h2, h3⟩ := hT.2 1 (by simp)
        cases e
        simp only [Nat.one_mul, List.getElem?_cons_succ, List.getElem?_cons_zero, Option.getD_some] at h2 h3
        show Calls Try.prog 23 _ w fun e w' => e = .returned (.bool (decide (d.1 ≤ b.1 ∧ b.2 ≤ d.2))) ∧ _
        cases hc : decide (d.1 ≤ b.1) with
        | false => rw [decide_eq_false (fun h => (of_decide_eq_false hc) h.1)]; exact tw_a1 kb ko _ c b.1 b.2 x ha (by simp) d.1 d.2 hc w h0 h1 h2 h3
        | true =>
          cases hd : decide (b.2 ≤ d.2) with
          | false => rw [decide_eq_false (fun h => (of_decide_eq_false hd) h.2)]; exact tw_a2 kb ko _ c b.1 b.2 x ha (by simp) d.1 d.2 hc hd w h0 h1 h2 h3
          | true => rw [decide_eq_true ⟨of_decide_eq_true hc, of_decide_eq_true hd⟩]; exact tw_a3 kb ko _ c b.1 b.2 x ha (by simp) d.1 d.2 hc hd w h0 h1 h2 h3
    | true =>
      cases hb : decide (b.2 ≤ x) with
      | true => exact tw_yes kb ko _ c b.1 b.2 x (by simp) ha hb w h0 h1
      | false =>
        cases r with
        | nil => exact tw_b0 kb ko _ c b.1 b.2 x ha hb rfl w h0 h1
        | cons d r =>
          obtain ⟨kb', ko', e, h2, h3⟩ := hT.2 1 (by simp)
          cases e
          simp only [Nat.one_mul, List.getElem?_cons_succ, List.getElem?_cons_zero, Option.getD_some] at h2 h3
          show Calls Try.prog 23 _ w fun e w' => e = .returned (.bool (decide (d.1 ≤ b.1 ∧ b.2 ≤ d.2))) ∧ _
          cases hc : decide (d.1 ≤ b.1) with
          | false => rw [decide_eq_false (fun h => (of_decide_eq_false hc) h.1)]; exact tw_b1 kb ko _ c b.1 b.2 x ha hb (by simp) d.1 d.2 hc w h0 h1 h2 h3
          | true =>
            cases hd : decide (b.2 ≤ d.2) with
            | false => rw [decide_eq_false (fun h => (of_decide_eq_false hd) h.2)]; exact tw_b2 kb ko _ c b.1 b.2 x ha hb (by simp) d.1 d.2 hc hd w h0 h1 h2 h3
            | true => rw [decide_eq_true ⟨of_decide_eq_true hc, of_decide_eq_true hd⟩]; exact tw_b3 kb ko _ c b.1 b.2 x ha hb (by simp) d.1 d.2 hc hd w h0 h1 h2 h3
end Go.Proofs.Ytdodagpkkjpdiaa
