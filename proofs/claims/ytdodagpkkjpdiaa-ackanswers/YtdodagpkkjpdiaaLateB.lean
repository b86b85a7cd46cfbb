/- The contract of lateMayBe. -/
import Derived.Test.YtdodagpkkjpdiaaFind
import Derived.Test.YtdodagpkkjpdiaaBound
namespace Go.Proofs.Ytdodagpkkjpdiaa
open Go.ChangeShapes Go.WideShapes Go.ChangeAt Go.RowKit
set_option linter.unusedVariables false
set_option linter.unusedSimpArgs false

def lateB (r : Pl.Rv) (es : List En) : Bool := chk (-1) (spnsW es) && (decide (es.length = 0) || (decide (r.s.n < ((spnsW es)[0]?.getD (0, 0)).1) && decide (((spnsW es)[es.length - 1]?.getD (0, 0)).2 ≤ boundI r)))
set_option maxRecDepth 100000 in
set_option maxHeartbeats 4000000 in
theorem late_walk (r : Pl.Rv) (h : Hd) (w : World) (H : RvAt w r h) (hl : lowB r) :
    Calls Try.prog 45 #[.agg #[.int .i64 r.s.n, .slice h.ua r.s.u.length h.uc, .slice h.la h.es.length h.lc, .int .i64 r.cap, .int .i64 r.shift, .int .i64 r.edge, .int .u32 r.recent, .bool r.stamps, .bool r.sacks, .int .i64 r.fin, .bool r.dn, .slice h.fa r.first.length h.fc, .int .u32 r.irs, .int .u32 r.own, .bool r.stamp]] w fun e w' => e = .returned (.bool (lateB r h.es)) ∧ Below w.heap.size w w' := by
  obtain ⟨ua, uc, la, lc, es, fa, fc⟩ := h
  have hlr : es.length * 32 ≤ 140737488351232 := H.late.reach
  have hX := Box.new w 46 (rvL r ⟨ua, uc, la, lc, es, fa, fc⟩)
  have b0 : Below w.heap.size w (w.alloc (.cells (rvL r ⟨ua, uc, la, lc, es, fa, fc⟩).toArray 46)) := (Below.refl _ w).alloc (Nat.le_refl _) _
  have cB := fun W => bound_walk r ⟨ua, uc, la, lc, es, fa, fc⟩ W hl
  dsimp only at cB ⊢
  obtain ⟨W0, hW0⟩ : ∃ W0, w.alloc (.cells #[.int .i64 r.s.n, .slice ua r.s.u.length uc, .slice la es.length lc, .int .i64 r.cap, .int .i64 r.shift, .int .i64 r.edge, .int .u32 r.recent, .bool r.stamps, .bool r.sacks, .int .i64 r.fin, .bool r.dn, .slice fa r.first.length fc, .int .u32 r.irs, .int .u32 r.own, .bool r.stamp] 46) = W0 := ⟨_, rfl⟩
  have hW0' : w.alloc (.cells (rvL r ⟨ua, uc, la, lc, es, fa, fc⟩).toArray 46) = W0 := hW0
  rw [hW0'] at hX b0
  have HK : Hid (∀ W, Below W0.heap.size W0 W → W.cell? ⟨w.heap.size, 0, none⟩ = some (.int .i64 r.s.n) ∧ W.cell? ⟨w.heap.size, 1, none⟩ = some (.slice ua r.s.u.length uc) ∧ W.cell? ⟨w.heap.size, 2, none⟩ = some (.slice la es.length lc) ∧ W.cell? ⟨w.heap.size, 3, none⟩ = some (.int .i64 r.cap) ∧ W.cell? ⟨w.heap.size, 4, none⟩ = some (.int .i64 r.shift) ∧ W.cell? ⟨w.heap.size, 5, none⟩ = some (.int .i64 r.edge) ∧ W.cell? ⟨w.heap.size, 6, none⟩ = some (.int .u32 r.recent) ∧ W.cell? ⟨w.heap.size, 7, none⟩ = some (.bool r.stamps) ∧ W.cell? ⟨w.heap.size, 8, none⟩ = some (.bool r.sacks) ∧ W.cell? ⟨w.heap.size, 9, none⟩ = some (.int .i64 r.fin) ∧ W.cell? ⟨w.heap.size, 10, none⟩ = some (.bool r.dn) ∧ W.cell? ⟨w.heap.size, 11, none⟩ = some (.slice fa r.first.length fc) ∧ W.cell? ⟨w.heap.size, 12, none⟩ = some (.int .u32 r.irs) ∧ W.cell? ⟨w.heap.size, 13, none⟩ = some (.int .u32 r.own) ∧ W.cell? ⟨w.heap.size, 14, none⟩ = some (.bool r.stamp)) := fun W hW => Box.c15 (show Box W w.heap.size 46 [.int .i64 r.s.n, .slice ua r.s.u.length uc, .slice la es.length lc, .int .i64 r.cap, .int .i64 r.shift, .int .i64 r.edge, .int .u32 r.recent, .bool r.stamps, .bool r.sacks, .int .i64 r.fin, .bool r.dn, .slice fa r.first.length fc, .int .u32 r.irs, .int .u32 r.own, .bool r.stamp] from hX.later hW)
  have HB : Hid (Below w.heap.size w W0) := b0
  have cR := rowOf_any la lc es W0 (H.late.later b0)
  obtain ⟨ts, hts⟩ : ∃ ts, spnsW es = ts := ⟨_, rfl⟩
  have htl : ts.length = es.length := by rw [← hts]; unfold spnsW; rw [List.length_map]
  have HE : Hid (lateB r es = (chk (-1) ts && (decide (es.length = 0) || (decide (r.s.n < (ts[0]?.getD (0, 0)).1) && decide ((ts[es.length - 1]?.getD (0, 0)).2 ≤ boundI r))))) := by unfold Hid lateB; rw [hts]
  rw [hts] at cR
  obtain ⟨bd, hbd⟩ : ∃ bd, boundI r = bd := ⟨_, rfl⟩
  rw [hbd] at cB HE
  have cC : ∀ (va : Option Addr) (vc : Nat) (W : World), TimsAt W va ts → Calls Try.prog 12 #[.slice va es.length vc] W fun e W' => e = .returned (.int .i64 (errI ts)) ∧ Below W.heap.size W W' := fun va vc W hT => by
    have := check_any va vc ts W hT
    rw [htl] at this
    exact this
  obtain ⟨n, hn⟩ : ∃ n, es.length = n := ⟨_, rfl⟩
  rw [hn] at hlr hW0 HK cB cR cC HE htl
  rw [hn]
  obtain ⟨c0, c1, c2, c3, c4, c5, c6, c7, c8, c9, c10, c11, c12, c13, c14⟩ := HK.out W0 (Below.refl _ _)
  have HL : Hid (ts.length = n) := htl
  clear hX hW0' b0 H hts hl htl hbd hn
  cases hc : chk (-1) ts with
  | false =>
    have hE : errI ts = 60 := by simp [errI, hc]
    have HG : Hid (lateB r es = false) := by unfold Hid; rw [HE.out, hc]; rfl
    rw [hE] at cC
    clear hE hc
    go_enter Try.func45, Try.ntmps45
    go_wp2_with (first
      | (go_at_call 61; refine cR.mono ?_; rintro e w1 ⟨va, vc, rfl, hR1, hB1⟩; have cC' := cC va vc w1 hR1.tims)
      | (go_at_call 12; refine cC'.mono ?_; rintro e w2 ⟨rfl, hB2⟩))
    go_ret
    exact ⟨ret_bool HG.out.symm, Below.on HB.out (Below.on hB1 hB2)⟩
  | true =>
    have hE : errI ts = 0 := by simp [errI, hc]
    rw [hc, Bool.true_and] at HE
    rw [hE] at cC
    clear hE hc
    by_cases h0 : n = 0
    · have HG : Hid (lateB r es = true) := by unfold Hid; rw [HE.out, h0]; simp
      have h0' : ((n : Int) == 0) = true := by simp [h0]
      clear h0
      go_enter Try.func45, Try.ntmps45
      go_wp2_with (first
        | (go_at_call 61; refine cR.mono ?_; rintro e w1 ⟨va, vc, rfl, hR1, hB1⟩; have cC' := cC va vc w1 hR1.tims)
        | (go_at_call 12; refine cC'.mono ?_; rintro e w2 ⟨rfl, hB2⟩))
      have HBe : Hid (Below w.heap.size w w2) := Below.on HB.out (Below.on hB1 hB2)
      clear hB1 hB2 cC' hR1
      go_quiet (fail)
      go_wp2_with fail
      go_ret
      exact ⟨ret_bool HG.out.symm, below_drewN HBe.out _⟩
    · have h0' : ((n : Int) == 0) = false := by simp [h0]
      have hnn : (0 : Int) < (n : Int) := by omega
      have HN0 : Hid (¬ n = 0) := h0
      obtain ⟨m, hm⟩ : ∃ m, n = m + 1 := ⟨n - 1, by omega⟩
      have hm1 : (n : Int) - 1 = (m : Int) := by omega
      have hm2 : (m : Int) < (n : Int) := by omega
      have hm3 : m < n := by omega
      have hnn' : 0 < n := by omega
      have hwm : IntKind.i64.wrap (m : Int) = (m : Int) := by rw [IntKind.wrap_i64]; omega
      have hwr : IntKind.i64.wrap ((n : Int) - 1) = (m : Int) := by rw [IntKind.wrap_i64]; omega
      have HM : Hid (n = m + 1) := hm
      clear h0 hm
      go_enter Try.func45, Try.ntmps45
      go_wp2_with (go_at_call 61; refine cR.mono ?_; rintro e w1 ⟨va, vc, rfl, hR1, hB1⟩; have cC' := cC va vc w1 hR1.tims)
      refine cC'.mono ?_
      rintro e w2 ⟨rfl, hB2⟩
      have hR2 := hR1.below hB2 (Nat.le_refl _)
      have hB12 := Below.on hB1 hB2
      obtain ⟨b, o, rfl, z0, _⟩ := hR2.tims.2 0 (by rw [HL.out, HM.out]; omega)
      obtain ⟨_, _, e3, _, z3⟩ := hR2.tims.2 m (by rw [HL.out, HM.out]; omega)
      cases e3
      obtain ⟨f0, hf0⟩ : ∃ f0, (ts[0]?.getD (0, 0)).1 = f0 := ⟨_, rfl⟩
      obtain ⟨t1, ht1⟩ : ∃ t1, (ts[m]?.getD (0, 0)).2 = t1 := ⟨_, rfl⟩
      have HG : Hid (lateB r es = (decide (r.s.n < f0) && decide (t1 ≤ bd))) := by
        unfold Hid
        rw [HE.out, show n - 1 = m from by have := HM.out; omega, hf0, ht1]
        simp [HN0.out]
      rw [hf0] at z0
      rw [ht1] at z3
      have z0' : w2.cell? ⟨b, o, none⟩ = some (.int .i64 f0) := by simpa using z0
      have HK2 : Hid (∀ W, Below w2.heap.size w2 W → W.cell? ⟨b, o, none⟩ = some (.int .i64 f0) ∧ W.cell? ⟨b, o + m * 2 + 1, none⟩ = some (.int .i64 t1) ∧ W.cell? ⟨w.heap.size, 0, none⟩ = some (.int .i64 r.s.n) ∧ W.cell? ⟨w.heap.size, 1, none⟩ = some (.slice ua r.s.u.length uc) ∧ W.cell? ⟨w.heap.size, 2, none⟩ = some (.slice la n lc) ∧ W.cell? ⟨w.heap.size, 3, none⟩ = some (.int .i64 r.cap) ∧ W.cell? ⟨w.heap.size, 4, none⟩ = some (.int .i64 r.shift) ∧ W.cell? ⟨w.heap.size, 5, none⟩ = some (.int .i64 r.edge) ∧ W.cell? ⟨w.heap.size, 6, none⟩ = some (.int .u32 r.recent) ∧ W.cell? ⟨w.heap.size, 7, none⟩ = some (.bool r.stamps) ∧ W.cell? ⟨w.heap.size, 8, none⟩ = some (.bool r.sacks) ∧ W.cell? ⟨w.heap.size, 9, none⟩ = some (.int .i64 r.fin) ∧ W.cell? ⟨w.heap.size, 10, none⟩ = some (.bool r.dn) ∧ W.cell? ⟨w.heap.size, 11, none⟩ = some (.slice fa r.first.length fc) ∧ W.cell? ⟨w.heap.size, 12, none⟩ = some (.int .u32 r.irs) ∧ W.cell? ⟨w.heap.size, 13, none⟩ = some (.int .u32 r.own) ∧ W.cell? ⟨w.heap.size, 14, none⟩ = some (.bool r.stamp) ∧ Below w2.heap.size w2 W) := fun W hW => by
        obtain ⟨q0, q1, q2, q3, q4, q5, q6, q7, q8, q9, q10, q11, q12, q13, q14⟩ := HK.out W (Below.on hB12 hW)
        exact ⟨(hW.cell (p := ⟨b, o, none⟩) (lt_of_cell z0')).trans z0', (hW.cell (p := ⟨b, o + m * 2 + 1, none⟩) (lt_of_cell z3)).trans z3, q0, q1, q2, q3, q4, q5, q6, q7, q8, q9, q10, q11, q12, q13, q14, hW⟩
      have HBe : Hid (Below w.heap.size w w2) := Below.on HB.out hB12
      clear hB1 hB2 cC' hR1 hR2 hB12 hf0 ht1 z0 c0 c1 c2 c3 c4 c5 c6 c7 c8 c9 c10 c11 c12 c13 c14
      obtain ⟨_, _, c0, c1, c2, c3, c4, c5, c6, c7, c8, c9, c10, c11, c12, c13, c14, _⟩ := HK2.out w2 (Below.refl _ _)
      by_cases g1 : r.s.n < f0
      · have g1' : decide (r.s.n < f0) = true := by simpa using g1
        rw [g1', Bool.true_and] at HG
        clear g1
        go_wp2_with fail
        clear c0 c1 c2 c3 c4 c5 c6 c7 c8 c9 c10 c11 c12 c13 c14 z0' z3
        go_region_held3 (fun W => W.cell? ⟨b, o, none⟩ = some (.int .i64 f0) ∧ W.cell? ⟨b, o + m * 2 + 1, none⟩ = some (.int .i64 t1) ∧ W.cell? ⟨w.heap.size, 0, none⟩ = some (.int .i64 r.s.n) ∧ W.cell? ⟨w.heap.size, 1, none⟩ = some (.slice ua r.s.u.length uc) ∧ W.cell? ⟨w.heap.size, 2, none⟩ = some (.slice la n lc) ∧ W.cell? ⟨w.heap.size, 3, none⟩ = some (.int .i64 r.cap) ∧ W.cell? ⟨w.heap.size, 4, none⟩ = some (.int .i64 r.shift) ∧ W.cell? ⟨w.heap.size, 5, none⟩ = some (.int .i64 r.edge) ∧ W.cell? ⟨w.heap.size, 6, none⟩ = some (.int .u32 r.recent) ∧ W.cell? ⟨w.heap.size, 7, none⟩ = some (.bool r.stamps) ∧ W.cell? ⟨w.heap.size, 8, none⟩ = some (.bool r.sacks) ∧ W.cell? ⟨w.heap.size, 9, none⟩ = some (.int .i64 r.fin) ∧ W.cell? ⟨w.heap.size, 10, none⟩ = some (.bool r.dn) ∧ W.cell? ⟨w.heap.size, 11, none⟩ = some (.slice fa r.first.length fc) ∧ W.cell? ⟨w.heap.size, 12, none⟩ = some (.int .u32 r.irs) ∧ W.cell? ⟨w.heap.size, 13, none⟩ = some (.int .u32 r.own) ∧ W.cell? ⟨w.heap.size, 14, none⟩ = some (.bool r.stamp) ∧ Below w2.heap.size w2 W)
          (exact HK2.out _ (by repeat (first | with_reducible exact Below.refl _ _ | with_reducible assumption | with_reducible refine Below.drew ?_ | with_reducible refine below_drewN ?_ _ | with_reducible refine below_more ?_ _)))
          (first | (go_at_call 62; refine (cB _).mono ?_; rintro e w3 ⟨rfl, hB3⟩; have hb3 : Below w2.heap.size w2 w3 := Below.on (by repeat (first | with_reducible exact Below.refl _ _ | with_reducible assumption | with_reducible refine Below.drew ?_ | with_reducible refine below_drewN ?_ _ | with_reducible refine below_more ?_ _)) hB3))
        go_wp2_with fail
        go_ret
        exact ⟨ret_bool HG.out.symm, Below.on HBe.out (by repeat (first | with_reducible exact Below.refl _ _ | with_reducible assumption | with_reducible refine Below.drew ?_ | with_reducible refine below_drewN ?_ _ | with_reducible refine below_more ?_ _))⟩
      · have g1' : decide (r.s.n < f0) = false := by simpa using g1
        have HG' : Hid (lateB r es = false) := by unfold Hid; rw [HG.out, g1']; rfl
        clear g1
        go_wp2_with fail
        go_quiet (fail)
        go_wp2_with fail
        go_ret
        exact ⟨ret_bool HG'.out.symm, below_drewN HBe.out _⟩
end Go.Proofs.Ytdodagpkkjpdiaa
