/- The contract of numbersMayBe. -/
import Derived.Test.YtdodagpkkjpdiaaNumE
import Derived.Test.YtdodagpkkjpdiaaNumF
namespace Go.Proofs.Ytdodagpkkjpdiaa
open Go.ChangeShapes Go.WideShapes Go.ChangeAt Go.RowKit
set_option linter.unusedVariables false
set_option linter.unusedSimpArgs false

set_option maxRecDepth 100000 in
set_option maxHeartbeats 4000000 in
theorem numbers_walk (r : Pl.Rv) (h : Hd) (w : World) :
    Calls Try.prog 44 #[.agg #[.int .i64 r.s.n, .slice h.ua r.s.u.length h.uc, .slice h.la h.es.length h.lc, .int .i64 r.cap, .int .i64 r.shift, .int .i64 r.edge, .int .u32 r.recent, .bool r.stamps, .bool r.sacks, .int .i64 r.fin, .bool r.dn, .slice h.fa r.first.length h.fc, .int .u32 r.irs, .int .u32 r.own, .bool r.stamp]] w fun e w' => e = .returned (.bool (numB r)) ∧ Below w.heap.size w w' := by
  have cR := fun W hl => reach_walk r h W hl
  obtain ⟨mn, hmn⟩ : ∃ mn, (if r.s.n < r.cap then r.s.n else r.cap) = mn := ⟨_, rfl⟩
  have hmn2 : mn ≤ r.s.n ∧ mn ≤ r.cap ∧ (mn = r.s.n ∨ mn = r.cap) := by rw [← hmn]; split <;> omega
  have HM : Hid (mn ≤ r.s.n ∧ mn ≤ r.cap ∧ (mn = r.s.n ∨ mn = r.cap)) := hmn2
  clear hmn2
  have b0 : Below w.heap.size w (w.alloc (.cells #[.int .i64 r.s.n, .slice h.ua r.s.u.length h.uc, .slice h.la h.es.length h.lc, .int .i64 r.cap, .int .i64 r.shift, .int .i64 r.edge, .int .u32 r.recent, .bool r.stamps, .bool r.sacks, .int .i64 r.fin, .bool r.dn, .slice h.fa r.first.length h.fc, .int .u32 r.irs, .int .u32 r.own, .bool r.stamp] 46)) := (Below.refl _ w).alloc (Nat.le_refl _) _
  by_cases a1 : r.s.n < 0
  · have HE : Hid (numB r = false) := by unfold Hid numB lowBb; simp [show ¬ 0 ≤ r.s.n by omega]
    go_enter Try.func44, Try.ntmps44
    go_wp2_with fail
    go_ret
    exact ⟨ret_bool HE.out.symm, b0⟩
  by_cases a2 : 562949953421312 < r.s.n
  · have HE : Hid (numB r = false) := by unfold Hid numB lowBb; simp [show ¬ r.s.n ≤ 562949953421312 by omega]
    go_enter Try.func44, Try.ntmps44
    go_wp2_with fail
    go_ret
    exact ⟨ret_bool HE.out.symm, b0⟩
  have cI := isRoom_walk r.cap r.shift
  cases a3 : roomB r.cap r.shift with
  | false =>
    have HE : Hid (numB r = false) := by unfold Hid numB lowBb; simp [a3]
    rw [a3] at cI
    clear a3
    go_enter Try.func44, Try.ntmps44
    go_wp2_with (go_at_call 30; refine (cI _).mono ?_; rintro e w1 ⟨rfl, hw1⟩; obtain rfl := hw1.symm)
    go_ret
    exact ⟨ret_bool HE.out.symm, b0⟩
  | true =>
    rw [a3] at cI
    have ha3 := roomB_iff.1 a3
    by_cases a4 : mn < (r.s.u.length : Int)
    · have HE : Hid (numB r = false) := by
        have := HM.out
        unfold Hid numB lowBb
        rcases (by omega : ¬ (r.s.u.length : Int) ≤ r.cap ∨ ¬ (r.s.u.length : Int) ≤ r.s.n) with h | h <;> simp [h]
      clear a3
      go_enter Try.func44, Try.ntmps44
      go_wp2_with (go_at_call 30; refine (cI _).mono ?_; rintro e w1 ⟨rfl, hw1⟩; obtain rfl := hw1.symm)
      go_ret
      exact ⟨ret_bool HE.out.symm, b0⟩
    have hlow : lowB r := by have := HM.out; unfold lowB; omega
    have HLW : Hid (lowBb r = true) := lowBb_iff.2 hlow
    cases a5 : finB r with
    | false =>
      have HE : Hid (numB r = false) := by unfold Hid numB; simp [a5]
      obtain ⟨g1, g2⟩ : r.fin ≠ -1 ∧ (r.fin < r.s.n ∨ 562949953421312 < r.fin) := by
        unfold finB at a5
        simp only [Bool.or_eq_false_iff, Bool.and_eq_false_iff, decide_eq_false_iff_not] at a5
        omega
      have g1' : (r.fin != -1) = true := by simpa using g1
      clear a3 a5 g1
      rcases g2 with g2 | g2
      · go_enter Try.func44, Try.ntmps44
        go_wp2_with (go_at_call 30; refine (cI _).mono ?_; rintro e w1 ⟨rfl, hw1⟩; obtain rfl := hw1.symm)
        go_ret
        exact ⟨ret_bool HE.out.symm, b0⟩
      · have g3 : ¬ r.fin < r.s.n := by omega
        go_enter Try.func44, Try.ntmps44
        go_wp2_with (go_at_call 30; refine (cI _).mono ?_; rintro e w1 ⟨rfl, hw1⟩; obtain rfl := hw1.symm)
        go_ret
        exact ⟨ret_bool HE.out.symm, b0⟩
    | true =>
      have hX := Box.new w 46 (rvL r h)
      obtain ⟨W0, hW0⟩ : ∃ W0, w.alloc (.cells #[.int .i64 r.s.n, .slice h.ua r.s.u.length h.uc, .slice h.la h.es.length h.lc, .int .i64 r.cap, .int .i64 r.shift, .int .i64 r.edge, .int .u32 r.recent, .bool r.stamps, .bool r.sacks, .int .i64 r.fin, .bool r.dn, .slice h.fa r.first.length h.fc, .int .u32 r.irs, .int .u32 r.own, .bool r.stamp] 46) = W0 := ⟨_, rfl⟩
      have hW0' : w.alloc (.cells (rvL r h).toArray 46) = W0 := hW0
      rw [hW0'] at hX
      rw [hW0] at b0
      have HK : Hid (∀ W, Below W0.heap.size W0 W → W.cell? ⟨w.heap.size, 0, none⟩ = some (.int .i64 r.s.n) ∧ W.cell? ⟨w.heap.size, 1, none⟩ = some (.slice h.ua r.s.u.length h.uc) ∧ W.cell? ⟨w.heap.size, 2, none⟩ = some (.slice h.la h.es.length h.lc) ∧ W.cell? ⟨w.heap.size, 3, none⟩ = some (.int .i64 r.cap) ∧ W.cell? ⟨w.heap.size, 4, none⟩ = some (.int .i64 r.shift) ∧ W.cell? ⟨w.heap.size, 5, none⟩ = some (.int .i64 r.edge) ∧ W.cell? ⟨w.heap.size, 6, none⟩ = some (.int .u32 r.recent) ∧ W.cell? ⟨w.heap.size, 7, none⟩ = some (.bool r.stamps) ∧ W.cell? ⟨w.heap.size, 8, none⟩ = some (.bool r.sacks) ∧ W.cell? ⟨w.heap.size, 9, none⟩ = some (.int .i64 r.fin) ∧ W.cell? ⟨w.heap.size, 10, none⟩ = some (.bool r.dn) ∧ W.cell? ⟨w.heap.size, 11, none⟩ = some (.slice h.fa r.first.length h.fc) ∧ W.cell? ⟨w.heap.size, 12, none⟩ = some (.int .u32 r.irs) ∧ W.cell? ⟨w.heap.size, 13, none⟩ = some (.int .u32 r.own) ∧ W.cell? ⟨w.heap.size, 14, none⟩ = some (.bool r.stamp) ∧ Below W0.heap.size W0 W) := fun W hW => by
        obtain ⟨q0, q1, q2, q3, q4, q5, q6, q7, q8, q9, q10, q11, q12, q13, q14⟩ := Box.c15 (show Box W w.heap.size 46 [.int .i64 r.s.n, .slice h.ua r.s.u.length h.uc, .slice h.la h.es.length h.lc, .int .i64 r.cap, .int .i64 r.shift, .int .i64 r.edge, .int .u32 r.recent, .bool r.stamps, .bool r.sacks, .int .i64 r.fin, .bool r.dn, .slice h.fa r.first.length h.fc, .int .u32 r.irs, .int .u32 r.own, .bool r.stamp] from hX.later hW)
        exact ⟨q0, q1, q2, q3, q4, q5, q6, q7, q8, q9, q10, q11, q12, q13, q14, hW⟩
      have HB : Hid (Below w.heap.size w W0) := b0
      have HF : Hid (numB r = (decide (0 ≤ r.edge) && decide (r.edge ≤ r.reach) && (r.dn == (r.fin == r.s.n)))) := by unfold Hid numB; rw [HLW.out, a5]; simp
      have cR' := fun W => cR W hlow
      obtain ⟨R, hR⟩ : ∃ R, r.reach = R := ⟨_, rfl⟩
      rw [hR] at HF cR'
      obtain ⟨eq, heq⟩ : ∃ eq, (r.fin == r.s.n) = eq := ⟨_, rfl⟩
      rw [heq] at HF
      obtain ⟨c0, c1, c2, c3, c4, c5, c6, c7, c8, c9, c10, c11, c12, c13, c14, _⟩ := HK.out W0 (Below.refl _ _)
      have hfin : (r.fin != -1) = false ∨ ((r.fin != -1) = true ∧ ¬ r.fin < r.s.n ∧ ¬ 562949953421312 < r.fin) := by
        unfold finB at a5
        simp only [Bool.or_eq_true, Bool.and_eq_true, decide_eq_true_iff] at a5
        simp only [bne_eq_false_iff_eq, bne_iff_ne]
        omega
      clear hX hW0' a3 hR cR hlow a5 b0
      have key : ∀ (a : Act) (hEnd : Hid (True)), True := fun _ _ => trivial
      clear key
      by_cases e1 : r.edge < 0
      · have HE : Hid (numB r = false) := by unfold Hid; rw [HF.out]; simp [show ¬ 0 ≤ r.edge by omega]
        have e1' : decide (0 ≤ r.edge) = false := by simp; omega
        rcases hfin with g | ⟨g1, g2, g3⟩
        all_goals (
          go_enter Try.func44, Try.ntmps44
          go_wp2_with (go_at_call 30; refine (cI _).mono ?_; rintro e w1 ⟨rfl, hw1⟩; obtain rfl := hw1.symm)
          go_quiet (fail)
          go_wp2_with fail
          go_ret
          exact ⟨ret_bool HE.out.symm, below_drewN HB.out _⟩)
      · have e1' : decide (0 ≤ r.edge) = true := by simp; omega
        by_cases e2 : R < r.edge
        · have HE : Hid (numB r = false) := by unfold Hid; rw [HF.out]; simp [show ¬ r.edge ≤ R by omega]
          have e2' : decide (r.edge ≤ R) = false := by simp; omega
          rcases hfin with g | ⟨g1, g2, g3⟩
          · exact (numE_walk r h w W0 mn R hmn a1 a2 cI a4 g hW0 HB HK cR' e1' e2').mono (fun e w' hq => ⟨by rw [hq.1, HE.out], hq.2⟩)
          · exact (numF_walk r h w W0 mn R hmn a1 a2 cI a4 g1 g2 g3 hW0 HB HK cR' e1' e2').mono (fun e w' hq => ⟨by rw [hq.1, HE.out], hq.2⟩)
        · have e2' : decide (r.edge ≤ R) = true := by simp; omega
          have HE : Hid (numB r = (r.dn == eq)) := by unfold Hid; rw [HF.out, e1', e2']; simp
          rcases hfin with g | ⟨g1, g2, g3⟩
          all_goals (
            go_enter Try.func44, Try.ntmps44
            go_wp2_with (go_at_call 30; refine (cI _).mono ?_; rintro e w1 ⟨rfl, hw1⟩; obtain rfl := hw1.symm)
            clear hW0 c0 c1 c2 c3 c4 c5 c6 c7 c8 c9 c10 c11 c12 c13 c14
            go_region_held3 (fun W => W.cell? ⟨w.heap.size, 0, none⟩ = some (.int .i64 r.s.n) ∧ W.cell? ⟨w.heap.size, 1, none⟩ = some (.slice h.ua r.s.u.length h.uc) ∧ W.cell? ⟨w.heap.size, 2, none⟩ = some (.slice h.la h.es.length h.lc) ∧ W.cell? ⟨w.heap.size, 3, none⟩ = some (.int .i64 r.cap) ∧ W.cell? ⟨w.heap.size, 4, none⟩ = some (.int .i64 r.shift) ∧ W.cell? ⟨w.heap.size, 5, none⟩ = some (.int .i64 r.edge) ∧ W.cell? ⟨w.heap.size, 6, none⟩ = some (.int .u32 r.recent) ∧ W.cell? ⟨w.heap.size, 7, none⟩ = some (.bool r.stamps) ∧ W.cell? ⟨w.heap.size, 8, none⟩ = some (.bool r.sacks) ∧ W.cell? ⟨w.heap.size, 9, none⟩ = some (.int .i64 r.fin) ∧ W.cell? ⟨w.heap.size, 10, none⟩ = some (.bool r.dn) ∧ W.cell? ⟨w.heap.size, 11, none⟩ = some (.slice h.fa r.first.length h.fc) ∧ W.cell? ⟨w.heap.size, 12, none⟩ = some (.int .u32 r.irs) ∧ W.cell? ⟨w.heap.size, 13, none⟩ = some (.int .u32 r.own) ∧ W.cell? ⟨w.heap.size, 14, none⟩ = some (.bool r.stamp) ∧ Below W0.heap.size W0 W)
              (exact HK.out _ (by repeat (first | with_reducible exact Below.refl _ _ | with_reducible assumption | with_reducible refine Below.drew ?_ | with_reducible refine below_drewN ?_ _ | with_reducible refine below_more ?_ _)))
              (first | (go_at_call 60; refine (cR' _).mono ?_; rintro e w1 ⟨rfl, hB⟩; have hb1 : Below W0.heap.size W0 w1 := Below.on (by repeat (first | with_reducible exact Below.refl _ _ | with_reducible assumption | with_reducible refine Below.drew ?_ | with_reducible refine below_drewN ?_ _ | with_reducible refine below_more ?_ _)) hB))
            go_wp2_with fail
            go_ret
            exact ⟨ret_bool HE.out.symm, Below.on HB.out (by repeat (first | with_reducible exact Below.refl _ _ | with_reducible assumption | with_reducible refine Below.drew ?_ | with_reducible refine below_drewN ?_ _ | with_reducible refine below_more ?_ _))⟩)
end Go.Proofs.Ytdodagpkkjpdiaa
