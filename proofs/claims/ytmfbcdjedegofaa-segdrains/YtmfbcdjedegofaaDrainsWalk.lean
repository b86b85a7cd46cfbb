/- The walk of SegDrains. -/
import Derived.Test.YtmfbcdjedegofaaHeads
import Derived.Test.YtmfbcdjedegofaaKinds
namespace Go.Proofs.Ytmfbcdjedegofaa
open Go.ChangeShapes Go.WideShapes Go.ChangeAt Go.RowKit
set_option linter.unusedVariables false


theorem dr_ok (s size mss : Int) (fi : Bool) (h0 : 0 ≤ s) (h1 : s ≤ size) (h2 : size ≤ 500) (h3 : 1 ≤ mss) (h4 : mss ≤ 65000) (hf : fi = true → s = size) : okW s size true fi 10000 0 mss 10000 = true := by
  unfold okW
  apply decide_eq_true
  exact ⟨by omega, by omega, by omega, by omega, by omega, by omega, by omega, by omega, by omega, by omega, fun h => ⟨rfl, hf h⟩⟩
theorem dr_chk {s size mss : Int} {fi : Bool} (h : okW s size true fi 10000 0 mss 10000 = true) : chkI s size true fi 10000 0 mss 10000 = 0 := by rw [chkI, if_pos h]
theorem dr_end (size mss : Int) (na : Bool) (h1 : 0 ≤ size) (h2 : size ≤ 500) (hok : okW size size true false 10000 0 mss 10000 = true) : nextG size size true false 10000 0 mss 100000 10000 na false = true ∧ nextC size size true false 10000 0 mss 100000 10000 na false = ⟨size, size, true, false⟩ := by
  have hg : nextG size size true false 10000 0 mss 100000 10000 na false = true := by
    rw [nextG, if_pos hok, if_neg (by simp), if_pos rfl, endG]
    apply decide_eq_true
    exact ⟨rfl, .inr (by omega)⟩
  exact ⟨hg, by rw [nextC, if_pos hg, if_pos rfl]⟩
theorem dr_new (s size mss m : Int) (na : Bool) (h0 : 0 ≤ s) (h1 : s < size) (h2 : size ≤ 500) (h3 : 1 ≤ mss) (hok : okW s size true false 10000 0 mss 10000 = true) (hm : min (size - s) mss = m) : nextG s size true false 10000 0 mss 100000 10000 na false = true ∧ nextC s size true false 10000 0 mss 100000 10000 na false = ⟨s, s + m, decide (m = size - s), decide (s + m = size)⟩ := by
  have hl : leastI s size 10000 mss = m := by unfold leastI; omega
  have he : ¬ s = size := by omega
  have hg : nextG s size true false 10000 0 mss 100000 10000 na false = true := by
    rw [nextG, if_pos hok, if_neg (by simp), if_neg he, if_neg (by simp), newG, hl]
    simp [worthB]
    omega
  refine ⟨hg, ?_⟩
  rw [nextC, if_pos hg, if_neg he, if_neg (by simp), hl, newC]
  congr 1
  rw [Bool.eq_iff_iff]
  simp
  omega
theorem dr_fin (size mss : Int) (na : Bool) (hok : okW size size true true 10000 0 mss 10000 = true) : nextG size size true true 10000 0 mss 100000 10000 na false = false ∧ nextC size size true true 10000 0 mss 100000 10000 na false = zC := by
  have hg : nextG size size true true 10000 0 mss 100000 10000 na false = false := by rw [nextG, if_pos hok, if_pos rfl]
  exact ⟨hg, next_zero _ _ _ _ _ _ _ _ _ _ _ hg⟩
set_option maxRecDepth 100000 in
set_option maxHeartbeats 4000000 in
theorem drains_walk (size mss : Int) (na : Bool) (w : World) (hs : I64 size) (hm : I64 mss) : Calls Try.prog 7 #[.int .i64 size, .int .i64 mss, .bool na] w fun e w' => e = .returned (.bool true) ∧ Below w.heap.size w w' := by
  unfold I64 at hs hm
  have c3 := heads_any
  by_cases hin : 0 ≤ size ∧ size ≤ 500 ∧ 1 ≤ mss ∧ mss ≤ 65000
  · obtain ⟨a1, a2, a3, a4⟩ := hin
    have HST : Hid (Below w.heap.size w (w.alloc (.cells #[.int .i64 0, .int .i64 size, .bool true, .bool false, .int .i64 10000, .int .i64 0, .int .i64 mss, .int .i64 100000, .int .i64 10000, .bool na, .bool false] 23)) ∧ BoxW (w.alloc (.cells #[.int .i64 0, .int .i64 size, .bool true, .bool false, .int .i64 10000, .int .i64 0, .int .i64 mss, .int .i64 100000, .int .i64 10000, .bool na, .bool false] 23)) w.heap.size (.int .i64 0) (.int .i64 size) (.bool true) (.bool false) (.int .i64 10000) (.int .i64 0) (.int .i64 mss) (.int .i64 100000) (.int .i64 10000) (.bool na) (.bool false)) := ⟨below_more (Below.refl _ _) _, BoxW.new w (.int .i64 0) (.int .i64 size) (.bool true) (.bool false) (.int .i64 10000) (.int .i64 0) (.int .i64 mss) (.int .i64 100000) (.int .i64 10000) (.bool na) (.bool false)⟩
    have HC : Hid (∀ s, 0 ≤ s → s ≤ size → okW s size true false 10000 0 mss 10000 = true) := fun s h0 h1 => dr_ok s size mss false h0 h1 a2 a3 a4 (by simp)
    have hI : ∀ s, 0 ≤ s → s ≤ size → Ints s size 10000 0 mss 100000 10000 := fun s h0 h1 => by unfold Ints I64; omega
    have c2 : ∀ W, Calls Try.prog 8 #[.agg #[.int .i64 size, .int .i64 size, .bool true, .bool true, .int .i64 10000, .int .i64 0, .int .i64 mss, .int .i64 100000, .int .i64 10000, .bool na, .bool false]] W fun e w' => e = .returned (.tuple #[.agg #[.int .i64 0, .int .i64 0, .bool false, .bool false], .bool false, .int .i64 0]) ∧ Below W.heap.size W w' := fun W => next_is size size true true 10000 0 mss 100000 10000 na false W (hI size a1 (Int.le_refl _)) zC (dr_fin size mss na (dr_ok size size mss true a1 (Int.le_refl _) a2 a3 a4 (fun _ => rfl))).2 false (dr_fin size mss na (dr_ok size size mss true a1 (Int.le_refl _) a2 a3 a4 (fun _ => rfl))).1 0 (dr_chk (dr_ok size size mss true a1 (Int.le_refl _) a2 a3 a4 (fun _ => rfl)))
    have HI : Hid (∀ s, 0 ≤ s → s ≤ size → Ints s size 10000 0 mss 100000 10000) := hI
    clear hI
    go_enter Try.func7, Try.ntmps7
    go_wp2_with fail
    go_loopw [8, 9] (fun vs vi wr => ∃ (s i : Int), vs = .int .i64 s ∧ vi = .int .i64 i ∧ 0 ≤ i ∧ i ≤ s ∧ s ≤ size ∧ Hid (Below w.heap.size w wr ∧ BoxW wr w.heap.size (.int .i64 s) (.int .i64 size) (.bool true) (.bool false) (.int .i64 10000) (.int .i64 0) (.int .i64 mss) (.int .i64 100000) (.int .i64 10000) (.bool na) (.bool false)))
      (fun vs _ _ => (size - intOf vs).toNat)
    case atStart => exact ⟨0, 0, rfl, rfl, by omega, by omega, by omega, HST⟩
    case round =>
      clear HST
      obtain ⟨s, i, rfl, rfl, hi0, his, hss, HR⟩ := hrel
      have hok := HC.out s (by omega) hss
      have hII := HI.out s (by omega) hss
      have hd : decide (i ≤ size + 1) = true := by simp; omega
      obtain ⟨k0, k1, k2, k3, k4, k5, k6, k7, k8, k9, k10⟩ := HR.out.2.cells
      by_cases he : s = size
      · subst he
        obtain ⟨hg, hC⟩ := dr_end s mss na a1 a2 hok
        have c1 : ∀ W, _ := fun W => next_is s s true false 10000 0 mss 100000 10000 na false W hII _ hC true hg 0 (dr_chk hok)
        clear hg hC hok hII HC HI

        go_wp2_with fail
        refine (c1 _).mono ?_
        rintro e w1 ⟨rfl, hB1⟩
        have HF : Hid (Below w.heap.size w w1 ∧ BoxW w1 w.heap.size (.int .i64 s) (.int .i64 s) (.bool true) (.bool false) (.int .i64 10000) (.int .i64 0) (.int .i64 mss) (.int .i64 100000) (.int .i64 10000) (.bool na) (.bool false)) := ⟨Below.on HR.out.1 hB1, HR.out.2.later hB1⟩
        clear k0 k1 k2 k3 k4 k5 k6 k7 k8 k9 k10 HR hB1 c1
        obtain ⟨k0, k1, k2, k3, k4, k5, k6, k7, k8, k9, k10⟩ := HF.out.2.cells
        have f0 := fun i => HF.out.2.frozen i
        have hlt1 := HF.out.2.lt
        go_wp2_with fail
        refine (c2 _).mono ?_
        rintro e w2 ⟨rfl, hB2⟩
        have HG : Hid (Below w.heap.size w w2) := Below.on (below_more (below_set (below_set HF.out.1 _ _ _ (Nat.le_refl _)) _ _ _ (Nat.le_refl _)) _) hB2
        clear HF hB2 c2 k0 k1 k2 k3 k4 k5 k6 k7 k8 k9 k10 f0 hlt1
        go_wp2_with fail
        refine (c3 _).mono ?_
        rintro e w3 ⟨rfl, hB3⟩
        go_wp2_with fail
        go_ret
        exact ⟨rfl, Below.on (below_more HG.out _) hB3⟩
      · by_cases hq : size - s ≤ mss
        · obtain ⟨hg, hC⟩ := dr_new s size mss (size - s) na (by omega) (by omega) a2 a3 hok (by omega)
          have e1 : s + (size - s) = size := by omega
          rw [e1] at hC
          rw [show decide (size - s = size - s) = true from by simp, show decide (size = size) = true from by simp] at hC
          have c1 : ∀ W, _ := fun W => next_is s size true false 10000 0 mss 100000 10000 na false W hII _ hC true hg 0 (dr_chk hok)
          have e2 : (s + size - s == size) = true := by simp; omega
          clear hg hC hok hII HC HI e1
          go_wp2_with fail
          refine (c1 _).mono ?_
          rintro e w1 ⟨rfl, hB1⟩
          have HF : Hid (Below w.heap.size w w1 ∧ BoxW w1 w.heap.size (.int .i64 s) (.int .i64 size) (.bool true) (.bool false) (.int .i64 10000) (.int .i64 0) (.int .i64 mss) (.int .i64 100000) (.int .i64 10000) (.bool na) (.bool false)) := ⟨Below.on HR.out.1 hB1, HR.out.2.later hB1⟩
          clear k0 k1 k2 k3 k4 k5 k6 k7 k8 k9 k10 HR hB1 c1
          obtain ⟨k0, k1, k2, k3, k4, k5, k6, k7, k8, k9, k10⟩ := HF.out.2.cells
          have f0 := fun i => HF.out.2.frozen i
          have hlt1 := HF.out.2.lt
          go_wp2_with fail
          refine (c2 _).mono ?_
          rintro e w2 ⟨rfl, hB2⟩
          have HG : Hid (Below w.heap.size w w2) := Below.on (below_more (below_set (below_set HF.out.1 _ _ _ (Nat.le_refl _)) _ _ _ (Nat.le_refl _)) _) hB2
          clear HF hB2 c2 k0 k1 k2 k3 k4 k5 k6 k7 k8 k9 k10 f0 hlt1
          go_wp2_with fail
          refine (c3 _).mono ?_
          rintro e w3 ⟨rfl, hB3⟩
          go_wp2_with fail
          go_ret
          exact ⟨rfl, Below.on (below_more HG.out _) hB3⟩
        · obtain ⟨hg, hC⟩ := dr_new s size mss mss na (by omega) (by omega) a2 a3 hok (by omega)
          rw [show decide (mss = size - s) = false from by simp; omega, show decide (s + mss = size) = false from by simp; omega] at hC
          have c1 : ∀ W, _ := fun W => next_is s size true false 10000 0 mss 100000 10000 na false W hII _ hC true hg 0 (dr_chk hok)
          clear hg hC hok hII c2
          go_wp2_with fail
          refine (c1 _).mono ?_
          rintro e w1 ⟨rfl, hB1⟩
          have HF : Hid (Below w.heap.size w w1 ∧ BoxW w1 w.heap.size (.int .i64 s) (.int .i64 size) (.bool true) (.bool false) (.int .i64 10000) (.int .i64 0) (.int .i64 mss) (.int .i64 100000) (.int .i64 10000) (.bool na) (.bool false)) := ⟨Below.on HR.out.1 hB1, HR.out.2.later hB1⟩
          clear k0 k1 k2 k3 k4 k5 k6 k7 k8 k9 k10 HR hB1 c1
          obtain ⟨k0, k1, k2, k3, k4, k5, k6, k7, k8, k9, k10⟩ := HF.out.2.cells
          have f0 := fun i => HF.out.2.frozen i
          have hlt1 := HF.out.2.lt
          go_wp2_with fail
          have HN : Hid (Below w.heap.size w ((w1.setCell ⟨w.heap.size, 0, none⟩ (.int .i64 (s + mss))).alloc (.cells #[.int .i64 s, .int .i64 (s + mss), .bool false, .bool false] 25)) ∧ BoxW ((w1.setCell ⟨w.heap.size, 0, none⟩ (.int .i64 (s + mss))).alloc (.cells #[.int .i64 s, .int .i64 (s + mss), .bool false, .bool false] 25)) w.heap.size (.int .i64 (s + mss)) (.int .i64 size) (.bool true) (.bool false) (.int .i64 10000) (.int .i64 0) (.int .i64 mss) (.int .i64 100000) (.int .i64 10000) (.bool na) (.bool false)) := ⟨below_more (below_set HF.out.1 _ _ _ (Nat.le_refl _)) _, BoxW.alloc (Box.set HF.out.2 0 _) _⟩
          go_roundw
          case rel => exact ⟨s + mss, i + 1, by go_num, by go_num, by omega, by omega, by omega, HN⟩
          case measure => simp [intOf]; omega
  · have hc : size < 0 ∨ (0 ≤ size ∧ 500 < size) ∨ (0 ≤ size ∧ size ≤ 500 ∧ mss < 1) ∨ (0 ≤ size ∧ size ≤ 500 ∧ 1 ≤ mss ∧ 65000 < mss) := by omega
    clear hin
    rcases hc with h | ⟨h, h1⟩ | ⟨h, h1, h2⟩ | ⟨h, h1, h2, h3⟩
    all_goals (
      go_enter Try.func7, Try.ntmps7
      go_wp2_with fail
      refine (c3 _).mono ?_
      rintro e w1 ⟨rfl, hB1⟩
      go_wp2_with fail
      go_ret
      exact ⟨rfl, hB1⟩)
end Go.Proofs.Ytmfbcdjedegofaa
