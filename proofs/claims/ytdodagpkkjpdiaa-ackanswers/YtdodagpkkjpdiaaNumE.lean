/- numbersMayBe, where an edge is beyond the reach and the end is not known. -/
import Derived.Test.YtdodagpkkjpdiaaClass
import Derived.Test.YtdodagpkkjpdiaaNumD
namespace Go.Proofs.Ytdodagpkkjpdiaa
open Go.ChangeShapes Go.WideShapes Go.ChangeAt Go.RowKit
set_option linter.unusedVariables false
set_option linter.unusedSimpArgs false

set_option maxRecDepth 100000 in
set_option maxHeartbeats 8000000 in
theorem numE_walk (r : Pl.Rv) (h : Hd) (w W0 : World) (mn R : Int) (hmn : (if r.s.n < r.cap then r.s.n else r.cap) = mn) (a1 : ¬ r.s.n < 0) (a2 : ¬ 562949953421312 < r.s.n) (cI : ∀ (w : World), Calls Try.prog 30 #[.int .i64 r.cap, .int .i64 r.shift] w fun e w' => e = .returned (.bool true) ∧ w' = w) (a4 : ¬ mn < (r.s.u.length : Int)) (g : (r.fin != -1) = false)
    (hW0 : w.alloc (.cells #[.int .i64 r.s.n, .slice h.ua r.s.u.length h.uc, .slice h.la h.es.length h.lc, .int .i64 r.cap, .int .i64 r.shift, .int .i64 r.edge, .int .u32 r.recent, .bool r.stamps, .bool r.sacks, .int .i64 r.fin, .bool r.dn, .slice h.fa r.first.length h.fc, .int .u32 r.irs, .int .u32 r.own, .bool r.stamp] 46) = W0) (HB : Hid (Below w.heap.size w W0)) (HK : Hid (∀ W, Below W0.heap.size W0 W → W.cell? ⟨w.heap.size, 0, none⟩ = some (.int .i64 r.s.n) ∧ W.cell? ⟨w.heap.size, 1, none⟩ = some (.slice h.ua r.s.u.length h.uc) ∧ W.cell? ⟨w.heap.size, 2, none⟩ = some (.slice h.la h.es.length h.lc) ∧ W.cell? ⟨w.heap.size, 3, none⟩ = some (.int .i64 r.cap) ∧ W.cell? ⟨w.heap.size, 4, none⟩ = some (.int .i64 r.shift) ∧ W.cell? ⟨w.heap.size, 5, none⟩ = some (.int .i64 r.edge) ∧ W.cell? ⟨w.heap.size, 6, none⟩ = some (.int .u32 r.recent) ∧ W.cell? ⟨w.heap.size, 7, none⟩ = some (.bool r.stamps) ∧ W.cell? ⟨w.heap.size, 8, none⟩ = some (.bool r.sacks) ∧ W.cell? ⟨w.heap.size, 9, none⟩ = some (.int .i64 r.fin) ∧ W.cell? ⟨w.heap.size, 10, none⟩ = some (.bool r.dn) ∧ W.cell? ⟨w.heap.size, 11, none⟩ = some (.slice h.fa r.first.length h.fc) ∧ W.cell? ⟨w.heap.size, 12, none⟩ = some (.int .u32 r.irs) ∧ W.cell? ⟨w.heap.size, 13, none⟩ = some (.int .u32 r.own) ∧ W.cell? ⟨w.heap.size, 14, none⟩ = some (.bool r.stamp) ∧ Below W0.heap.size W0 W)) (cR : ∀ W, Calls Try.prog 60 #[.agg #[.int .i64 r.s.n, .slice h.ua r.s.u.length h.uc, .slice h.la h.es.length h.lc, .int .i64 r.cap, .int .i64 r.shift, .int .i64 r.edge, .int .u32 r.recent, .bool r.stamps, .bool r.sacks, .int .i64 r.fin, .bool r.dn, .slice h.fa r.first.length h.fc, .int .u32 r.irs, .int .u32 r.own, .bool r.stamp]] W fun e w' => e = .returned (.int .i64 R) ∧ Below W.heap.size W w') (e1' : decide (0 ≤ r.edge) = true) (e2' : decide (r.edge ≤ R) = false) :
    Calls Try.prog 44 #[.agg #[.int .i64 r.s.n, .slice h.ua r.s.u.length h.uc, .slice h.la h.es.length h.lc, .int .i64 r.cap, .int .i64 r.shift, .int .i64 r.edge, .int .u32 r.recent, .bool r.stamps, .bool r.sacks, .int .i64 r.fin, .bool r.dn, .slice h.fa r.first.length h.fc, .int .u32 r.irs, .int .u32 r.own, .bool r.stamp]] w fun e w' => e = .returned (.bool false) ∧ Below w.heap.size w w' := by
  obtain ⟨c0, c1, c2, c3, c4, c5, c6, c7, c8, c9, c10, c11, c12, c13, c14, _⟩ := HK.out W0 (Below.refl _ _)
  go_enter Try.func44, Try.ntmps44
  go_wp2_with (go_at_call 30; refine (cI _).mono ?_; rintro e w1 ⟨rfl, hw1⟩; obtain rfl := hw1.symm)
  clear hW0 cI a1 a2 a4 hmn g
  refine wp_region_class (fun W => W.cell? ⟨w.heap.size, 0, none⟩ = some (.int .i64 r.s.n) ∧ W.cell? ⟨w.heap.size, 1, none⟩ = some (.slice h.ua r.s.u.length h.uc) ∧ W.cell? ⟨w.heap.size, 2, none⟩ = some (.slice h.la h.es.length h.lc) ∧ W.cell? ⟨w.heap.size, 3, none⟩ = some (.int .i64 r.cap) ∧ W.cell? ⟨w.heap.size, 4, none⟩ = some (.int .i64 r.shift) ∧ W.cell? ⟨w.heap.size, 5, none⟩ = some (.int .i64 r.edge) ∧ W.cell? ⟨w.heap.size, 6, none⟩ = some (.int .u32 r.recent) ∧ W.cell? ⟨w.heap.size, 7, none⟩ = some (.bool r.stamps) ∧ W.cell? ⟨w.heap.size, 8, none⟩ = some (.bool r.sacks) ∧ W.cell? ⟨w.heap.size, 9, none⟩ = some (.int .i64 r.fin) ∧ W.cell? ⟨w.heap.size, 10, none⟩ = some (.bool r.dn) ∧ W.cell? ⟨w.heap.size, 11, none⟩ = some (.slice h.fa r.first.length h.fc) ∧ W.cell? ⟨w.heap.size, 12, none⟩ = some (.int .u32 r.irs) ∧ W.cell? ⟨w.heap.size, 13, none⟩ = some (.int .u32 r.own) ∧ W.cell? ⟨w.heap.size, 14, none⟩ = some (.bool r.stamp) ∧ Below W0.heap.size W0 W) (by kernel_rfl) (by kernel_rfl) ?hC ?_
  case hC => exact HK.out _ (by repeat (first | with_reducible exact Below.refl _ _ | with_reducible assumption | with_reducible refine Below.drew ?_ | with_reducible refine below_drewN ?_ _ | with_reducible refine below_more ?_ _))
  refine class_want (by rfl) (quiet_val (v := ?v0) ?hy0 ?rest0)
  case hy0 => (intro w hSw; (try dsimp only at hSw); first | (go_simp; done) | (go_simp; with_reducible rfl))
  try simp only [Act.put, List.setIfInBounds_toArray, List.set_cons_zero, List.set_cons_succ]
  refine class_want (by rfl) (quiet_val (v := ?v1) ?hy1 ?rest1)
  case hy1 => (intro w hSw; (try dsimp only at hSw); first | (go_simp; done) | (go_simp; with_reducible rfl))
  try simp only [Act.put, List.setIfInBounds_toArray, List.set_cons_zero, List.set_cons_succ]
  refine class_want (by rfl) (quiet_val (v := ?v2) ?hy2 ?rest2)
  case hy2 => (intro w hSw; (try dsimp only at hSw); first | (go_simp; done) | (go_simp; with_reducible rfl))
  try simp only [Act.put, List.setIfInBounds_toArray, List.set_cons_zero, List.set_cons_succ]
  refine class_want (by rfl) (quiet_val (v := ?v3) ?hy3 ?rest3)
  case hy3 => (intro w hSw; (try dsimp only at hSw); first | (go_simp; done) | (go_simp; with_reducible rfl))
  try simp only [Act.put, List.setIfInBounds_toArray, List.set_cons_zero, List.set_cons_succ]
  refine class_want (by rfl) (quiet_val (v := ?v4) ?hy4 ?rest4)
  case hy4 => (intro w hSw; (try dsimp only at hSw); first | (go_simp; done) | (go_simp; with_reducible rfl))
  try simp only [Act.put, List.setIfInBounds_toArray, List.set_cons_zero, List.set_cons_succ]
  refine class_want (by rfl) (quiet_val (v := ?v5) ?hy5 ?rest5)
  case hy5 => (intro w hSw; (try dsimp only at hSw); first | (go_simp; done) | (go_simp; with_reducible rfl))
  try simp only [Act.put, List.setIfInBounds_toArray, List.set_cons_zero, List.set_cons_succ]
  refine class_want (by rfl) (quiet_val (v := ?v6) ?hy6 ?rest6)
  case hy6 => (intro w hSw; (try dsimp only at hSw); first | (go_simp; done) | (go_simp; with_reducible rfl))
  try simp only [Act.put, List.setIfInBounds_toArray, List.set_cons_zero, List.set_cons_succ]
  refine class_want (by rfl) (quiet_enter (v := .int .i64 R) (f := 60) (args := #[.agg #[.int .i64 r.s.n, .slice h.ua r.s.u.length h.uc, .slice h.la h.es.length h.lc, .int .i64 r.cap, .int .i64 r.shift, .int .i64 r.edge, .int .u32 r.recent, .bool r.stamps, .bool r.sacks, .int .i64 r.fin, .bool r.dn, .slice h.fa r.first.length h.fc, .int .u32 r.irs, .int .u32 r.own, .bool r.stamp]]) ?hy7 ?hc7 ?rest7)
  case hy7 => (intro w hSw; (try dsimp only at hSw); first | (go_simp; done) | (go_simp; with_reducible rfl))
  case hc7 => (intro w hSw; refine (cR w).mono ?_; rintro e w1 ⟨rfl, hB⟩; have hb0 : Below W0.heap.size W0 w := hSw.2.2.2.2.2.2.2.2.2.2.2.2.2.2.2; exact ⟨rfl, HK.out _ (Below.on hb0 hB)⟩)
  try simp only [Act.put, List.setIfInBounds_toArray, List.set_cons_zero, List.set_cons_succ]
  refine class_want (by rfl) (quiet_val (v := ?v8) ?hy8 ?rest8)
  case hy8 => (intro w hSw; (try dsimp only at hSw); first | (go_simp; done) | (go_simp; with_reducible rfl))
  try simp only [Act.put, List.setIfInBounds_toArray, List.set_cons_zero, List.set_cons_succ]
  refine class_want (by rfl) (quiet_val (v := ?v9) ?hy9 ?rest9)
  case hy9 => (intro w hSw; (try dsimp only at hSw); first | (go_simp; done) | (go_simp; with_reducible rfl))
  try simp only [Act.put, List.setIfInBounds_toArray, List.set_cons_zero, List.set_cons_succ]
  refine class_want (by rfl) (quiet_val (v := ?v10) ?hy10 ?rest10)
  case hy10 => (intro w hSw; (try dsimp only at hSw); first | (go_simp; done) | (go_simp; with_reducible rfl))
  try simp only [Act.put, List.setIfInBounds_toArray, List.set_cons_zero, List.set_cons_succ]
  refine class_skip (by rfl) ?_
  try simp only [Act.put, List.setIfInBounds_toArray, List.set_cons_zero, List.set_cons_succ]
  refine class_skip (by rfl) ?_
  try simp only [Act.put, List.setIfInBounds_toArray, List.set_cons_zero, List.set_cons_succ]
  refine class_skip (by rfl) ?_
  try simp only [Act.put, List.setIfInBounds_toArray, List.set_cons_zero, List.set_cons_succ]
  refine class_skip (by rfl) ?_
  try simp only [Act.put, List.setIfInBounds_toArray, List.set_cons_zero, List.set_cons_succ]
  refine class_skip (by rfl) ?_
  try simp only [Act.put, List.setIfInBounds_toArray, List.set_cons_zero, List.set_cons_succ]
  refine class_skip (by rfl) ?_
  try simp only [Act.put, List.setIfInBounds_toArray, List.set_cons_zero, List.set_cons_succ]
  refine class_skip (by rfl) ?_
  try simp only [Act.put, List.setIfInBounds_toArray, List.set_cons_zero, List.set_cons_succ]
  refine class_skip (by rfl) ?_
  try simp only [Act.put, List.setIfInBounds_toArray, List.set_cons_zero, List.set_cons_succ]
  refine class_want (by rfl) (quiet_val (v := ?v19) ?hy19 ?rest19)
  case hy19 => (intro w hSw; (try dsimp only at hSw); first | (go_simp; done) | (go_simp; with_reducible rfl))
  try simp only [Act.put, List.setIfInBounds_toArray, List.set_cons_zero, List.set_cons_succ]
  refine class_want (by rfl) (quiet_val (v := ?v20) ?hy20 ?rest20)
  case hy20 => (intro w hSw; (try dsimp only at hSw); first | (go_simp; done) | (go_simp; with_reducible rfl))
  try simp only [Act.put, List.setIfInBounds_toArray, List.set_cons_zero, List.set_cons_succ]
  refine wpQuiet_nil ?_
  intro W hW
  go_wp2_with fail
  go_ret
  exact ⟨rfl, Below.on HB.out hW.2.2.2.2.2.2.2.2.2.2.2.2.2.2.2⟩
end Go.Proofs.Ytdodagpkkjpdiaa
