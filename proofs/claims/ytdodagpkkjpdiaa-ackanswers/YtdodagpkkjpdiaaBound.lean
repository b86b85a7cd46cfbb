/- The contract of bound. -/
import Derived.Test.YtdodagpkkjpdiaaLeaf
namespace Go.Proofs.Ytdodagpkkjpdiaa
open Go.ChangeShapes Go.WideShapes Go.ChangeAt Go.RowKit
set_option linter.unusedVariables false
set_option linter.unusedSimpArgs false

def boundI (r : Pl.Rv) : Int := if r.fin = -1 then r.limit else Pl.minJ r.limit r.fin
theorem bound_walk (r : Pl.Rv) (h : Hd) (w : World) (hl : lowB r) :
    Calls Try.prog 62 #[.agg #[.int .i64 r.s.n, .slice h.ua r.s.u.length h.uc, .slice h.la h.es.length h.lc, .int .i64 r.cap, .int .i64 r.shift, .int .i64 r.edge, .int .u32 r.recent, .bool r.stamps, .bool r.sacks, .int .i64 r.fin, .bool r.dn, .slice h.fa r.first.length h.fc, .int .u32 r.irs, .int .u32 r.own, .bool r.stamp]] w fun e w' => e = .returned (.int .i64 (boundI r)) ∧ Below w.heap.size w w' := by
  have c := fun W => limit_walk r h W hl
  obtain ⟨R, hR⟩ : ∃ R, r.limit = R := ⟨_, rfl⟩
  by_cases hf : r.fin = -1
  · have HL : Hid (boundI r = R) := by unfold Hid boundI; rw [if_pos hf, hR]
    rw [hR] at c
    have hf' : (r.fin == -1) = true := by simpa using hf
    clear hR hl hf
    go_enter Try.func62, Try.ntmps62
    go_wp2_with (go_at_call 66; refine (c _).mono ?_; rintro e w1 ⟨rfl, hB⟩)
    go_ret
    exact ⟨ret_int HL.out.symm, ((Below.refl _ w).alloc (Nat.le_refl _) _).trans (hB.mono (by simp))⟩
  · have HL : Hid (boundI r = Pl.minJ R r.fin) := by unfold Hid boundI; rw [if_neg hf, hR]
    rw [hR] at c
    have hf' : (r.fin == -1) = false := by simpa using hf
    have hX := Box.new w 46 (rvL r h)
    have hb0 : Below w.heap.size w (w.alloc (.cells (rvL r h).toArray 46)) := (Below.refl _ w).alloc (Nat.le_refl _) _
    obtain ⟨W0, hW0⟩ : ∃ W0, w.alloc (.cells #[.int .i64 r.s.n, .slice h.ua r.s.u.length h.uc, .slice h.la h.es.length h.lc, .int .i64 r.cap, .int .i64 r.shift, .int .i64 r.edge, .int .u32 r.recent, .bool r.stamps, .bool r.sacks, .int .i64 r.fin, .bool r.dn, .slice h.fa r.first.length h.fc, .int .u32 r.irs, .int .u32 r.own, .bool r.stamp] 46) = W0 := ⟨_, rfl⟩
    have hW0' : w.alloc (.cells (rvL r h).toArray 46) = W0 := hW0
    rw [hW0'] at hX hb0
    have HK : Hid (∀ W, Below W0.heap.size W0 W → W.cell? ⟨w.heap.size, 0, none⟩ = some (.int .i64 r.s.n) ∧ W.cell? ⟨w.heap.size, 1, none⟩ = some (.slice h.ua r.s.u.length h.uc) ∧ W.cell? ⟨w.heap.size, 2, none⟩ = some (.slice h.la h.es.length h.lc) ∧ W.cell? ⟨w.heap.size, 3, none⟩ = some (.int .i64 r.cap) ∧ W.cell? ⟨w.heap.size, 4, none⟩ = some (.int .i64 r.shift) ∧ W.cell? ⟨w.heap.size, 5, none⟩ = some (.int .i64 r.edge) ∧ W.cell? ⟨w.heap.size, 6, none⟩ = some (.int .u32 r.recent) ∧ W.cell? ⟨w.heap.size, 7, none⟩ = some (.bool r.stamps) ∧ W.cell? ⟨w.heap.size, 8, none⟩ = some (.bool r.sacks) ∧ W.cell? ⟨w.heap.size, 9, none⟩ = some (.int .i64 r.fin) ∧ W.cell? ⟨w.heap.size, 10, none⟩ = some (.bool r.dn) ∧ W.cell? ⟨w.heap.size, 11, none⟩ = some (.slice h.fa r.first.length h.fc) ∧ W.cell? ⟨w.heap.size, 12, none⟩ = some (.int .u32 r.irs) ∧ W.cell? ⟨w.heap.size, 13, none⟩ = some (.int .u32 r.own) ∧ W.cell? ⟨w.heap.size, 14, none⟩ = some (.bool r.stamp) ∧ Below W0.heap.size W0 W) := fun W hW => by
      obtain ⟨q0, q1, q2, q3, q4, q5, q6, q7, q8, q9, q10, q11, q12, q13, q14⟩ := Box.c15 (show Box W w.heap.size 46 [.int .i64 r.s.n, .slice h.ua r.s.u.length h.uc, .slice h.la h.es.length h.lc, .int .i64 r.cap, .int .i64 r.shift, .int .i64 r.edge, .int .u32 r.recent, .bool r.stamps, .bool r.sacks, .int .i64 r.fin, .bool r.dn, .slice h.fa r.first.length h.fc, .int .u32 r.irs, .int .u32 r.own, .bool r.stamp] from hX.later hW)
      exact ⟨q0, q1, q2, q3, q4, q5, q6, q7, q8, q9, q10, q11, q12, q13, q14, hW⟩
    have HB : Hid (Below w.heap.size w W0) := hb0
    obtain ⟨c0, c1, c2, c3, c4, c5, c6, c7, c8, c9, c10, c11, c12, c13, c14, _⟩ := HK.out W0 (Below.refl _ _)
    clear hR hl hf hb0 hX hW0'
    go_enter Try.func62, Try.ntmps62
    go_wp2_with fail
    clear hW0 c0 c1 c2 c3 c4 c5 c6 c7 c8 c9 c10 c11 c12 c13 c14
    go_region_held3 (fun W => W.cell? ⟨w.heap.size, 0, none⟩ = some (.int .i64 r.s.n) ∧ W.cell? ⟨w.heap.size, 1, none⟩ = some (.slice h.ua r.s.u.length h.uc) ∧ W.cell? ⟨w.heap.size, 2, none⟩ = some (.slice h.la h.es.length h.lc) ∧ W.cell? ⟨w.heap.size, 3, none⟩ = some (.int .i64 r.cap) ∧ W.cell? ⟨w.heap.size, 4, none⟩ = some (.int .i64 r.shift) ∧ W.cell? ⟨w.heap.size, 5, none⟩ = some (.int .i64 r.edge) ∧ W.cell? ⟨w.heap.size, 6, none⟩ = some (.int .u32 r.recent) ∧ W.cell? ⟨w.heap.size, 7, none⟩ = some (.bool r.stamps) ∧ W.cell? ⟨w.heap.size, 8, none⟩ = some (.bool r.sacks) ∧ W.cell? ⟨w.heap.size, 9, none⟩ = some (.int .i64 r.fin) ∧ W.cell? ⟨w.heap.size, 10, none⟩ = some (.bool r.dn) ∧ W.cell? ⟨w.heap.size, 11, none⟩ = some (.slice h.fa r.first.length h.fc) ∧ W.cell? ⟨w.heap.size, 12, none⟩ = some (.int .u32 r.irs) ∧ W.cell? ⟨w.heap.size, 13, none⟩ = some (.int .u32 r.own) ∧ W.cell? ⟨w.heap.size, 14, none⟩ = some (.bool r.stamp) ∧ Below W0.heap.size W0 W)
      (exact HK.out _ (by repeat (first | with_reducible exact Below.refl _ _ | with_reducible assumption | with_reducible refine Below.drew ?_ | with_reducible refine below_drewN ?_ _ | with_reducible refine below_more ?_ _)))
      (first | (go_at_call 66; refine (c _).mono ?_; rintro e w1 ⟨rfl, hB⟩; have hb1 : Below W0.heap.size W0 w1 := Below.on (by repeat (first | with_reducible exact Below.refl _ _ | with_reducible assumption | with_reducible refine Below.drew ?_ | with_reducible refine below_drewN ?_ _ | with_reducible refine below_more ?_ _)) hB))
    all_goals go_wp2_with fail
    all_goals go_ret
    all_goals (refine ⟨ret_int ?_, Below.on HB.out (by first | exact hb1 | exact below_drewN hb1 _)⟩; rw [HL.out]; unfold Pl.minJ; first | rw [if_pos (by assumption)] | rw [if_neg (by omega)])
end Go.Proofs.Ytdodagpkkjpdiaa
