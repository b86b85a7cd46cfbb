/- The walk of SegNext. -/
import Derived.Test.YtmfbcdjedegofaaHeads
import Derived.Test.YtmfbcdjedegofaaRefNext
namespace Go.Proofs.Ytmfbcdjedegofaa
open Go.ChangeShapes Go.WideShapes Go.ChangeAt Go.RowKit
set_option linter.unusedVariables false


set_option maxRecDepth 100000 in
set_option maxHeartbeats 4000000 in
theorem next_walk (nx en : Int) (cl fi : Bool) (ed un ms rm mo : Int) (na fo : Bool) (w : World) (hI : Ints nx en ed un ms rm mo) : Calls Try.prog 3 #[.agg #[.int .i64 nx, .int .i64 en, .bool cl, .bool fi, .int .i64 ed, .int .i64 un, .int .i64 ms, .int .i64 rm, .int .i64 mo, .bool na, .bool fo]] w fun e w' => e = .returned (.bool true) ∧ Below w.heap.size w w' := by
  have HX : Hid (BoxW (w.alloc (.cells #[.int .i64 nx, .int .i64 en, .bool cl, .bool fi, .int .i64 ed, .int .i64 un, .int .i64 ms, .int .i64 rm, .int .i64 mo, .bool na, .bool fo] 23)) w.heap.size (.int .i64 nx) (.int .i64 en) (.bool cl) (.bool fi) (.int .i64 ed) (.int .i64 un) (.int .i64 ms) (.int .i64 rm) (.int .i64 mo) (.bool na) (.bool fo)) := BoxW.new w (.int .i64 nx) (.int .i64 en) (.bool cl) (.bool fi) (.int .i64 ed) (.int .i64 un) (.int .i64 ms) (.int .i64 rm) (.int .i64 mo) (.bool na) (.bool fo)
  have HB : Hid (Below w.heap.size w (w.alloc (.cells #[.int .i64 nx, .int .i64 en, .bool cl, .bool fi, .int .i64 ed, .int .i64 un, .int .i64 ms, .int .i64 rm, .int .i64 mo, .bool na, .bool fo] 23))) := below_more (Below.refl _ _) _

  obtain ⟨⟨f, t, n, p⟩, hC⟩ : ∃ C, nextC nx en cl fi ed un ms rm mo na fo = C := ⟨_, rfl⟩
  obtain ⟨g, hg⟩ : ∃ g, nextG nx en cl fi ed un ms rm mo na fo = g := ⟨_, rfl⟩
  obtain ⟨r, hr⟩ : ∃ r, chkI nx en cl fi ed un ms mo = r := ⟨_, rfl⟩
  obtain ⟨u, hu⟩ : ∃ u, useI nx en cl fi ed un ms mo = u := ⟨_, rfl⟩
  have c1 : ∀ W, Calls Try.prog 8 #[.agg #[.int .i64 nx, .int .i64 en, .bool cl, .bool fi, .int .i64 ed, .int .i64 un, .int .i64 ms, .int .i64 rm, .int .i64 mo, .bool na, .bool fo]] W fun e w' => e = .returned (.tuple #[.agg #[.int .i64 f, .int .i64 t, .bool n, .bool p], .bool g, .int .i64 r]) ∧ Below W.heap.size W w' := fun W => next_is nx en cl fi ed un ms rm mo na fo W hI _ hC g hg r hr
  have c2 : ∀ W, Calls Try.prog 9 #[.agg #[.int .i64 nx, .int .i64 en, .bool cl, .bool fi, .int .i64 ed, .int .i64 un, .int .i64 ms, .int .i64 rm, .int .i64 mo, .bool na, .bool fo]] W fun e w' => e = .returned (.tuple #[.agg #[.int .i64 f, .int .i64 t, .bool n, .bool p], .bool g, .int .i64 r]) ∧ Below W.heap.size W w' := fun W => refNext_is nx en cl fi ed un ms rm mo na fo W hI _ hC g hg r hr
  have c3 : ∀ W, Calls Try.prog 10 #[.agg #[.int .i64 nx, .int .i64 en, .bool cl, .bool fi, .int .i64 ed, .int .i64 un, .int .i64 ms, .int .i64 rm, .int .i64 mo, .bool na, .bool fo]] W fun e w' => e = .returned (.int .i64 r) ∧ Below W.heap.size W w' := fun W => chk_is nx en cl fi ed un ms rm mo na fo W hI r hr
  have c4 : ∀ W, Calls Try.prog 11 #[.agg #[.int .i64 nx, .int .i64 en, .bool cl, .bool fi, .int .i64 ed, .int .i64 un, .int .i64 ms, .int .i64 rm, .int .i64 mo, .bool na, .bool fo]] W fun e w' => e = .returned (.int .i64 r) ∧ Below W.heap.size W w' := fun W => refChk_is nx en cl fi ed un ms rm mo na fo W hI r hr
  have c5 : ∀ W, Calls Try.prog 12 #[.agg #[.int .i64 nx, .int .i64 en, .bool cl, .bool fi, .int .i64 ed, .int .i64 un, .int .i64 ms, .int .i64 rm, .int .i64 mo, .bool na, .bool fo]] W fun e w' => e = .returned (.int .i64 u) ∧ Below W.heap.size W w' := fun W => use_is nx en cl fi ed un ms rm mo na fo W hI u hu
  have c6 : ∀ W, Calls Try.prog 13 #[.agg #[.int .i64 nx, .int .i64 en, .bool cl, .bool fi, .int .i64 ed, .int .i64 un, .int .i64 ms, .int .i64 rm, .int .i64 mo, .bool na, .bool fo]] W fun e w' => e = .returned (.int .i64 u) ∧ Below W.heap.size W w' := fun W => refUse_is nx en cl fi ed un ms rm mo na fo W hI u hu
  have c7 := heads_any
  have hri : -9223372036854775808 ≤ r ∧ r ≤ 9223372036854775807 := by rw [← hr]; unfold chkI; split <;> omega
  clear hI hC hg hr hu
  go_enter Try.func3, Try.ntmps3
  go_wp2_with fail
  refine (c1 _).mono ?_
  rintro e w1 ⟨rfl, hB1⟩
  have HF1 : Hid (Below w.heap.size w (w1.alloc (.cells #[.int .i64 f, .int .i64 t, .bool n, .bool p] 25)) ∧ BoxW (w1.alloc (.cells #[.int .i64 f, .int .i64 t, .bool n, .bool p] 25)) w.heap.size (.int .i64 nx) (.int .i64 en) (.bool cl) (.bool fi) (.int .i64 ed) (.int .i64 un) (.int .i64 ms) (.int .i64 rm) (.int .i64 mo) (.bool na) (.bool fo) ∧ BoxR (w1.alloc (.cells #[.int .i64 f, .int .i64 t, .bool n, .bool p] 25)) w1.heap.size (.int .i64 f) (.int .i64 t) (.bool n) (.bool p)) := ⟨below_more (Below.on HB.out hB1) _, (HX.out.later hB1).alloc _, BoxR.new _ _ _ _ _⟩
  obtain ⟨k0, k1, k2, k3, k4, k5, k6, k7, k8, k9, k10⟩ := (HX.out.later hB1).cells
  have hlt1 := (HX.out.later hB1).lt
  clear HX HB hB1 c1
  go_wp2_with fail
  refine (c2 _).mono ?_
  rintro e w2 ⟨rfl, hB2⟩
  have HF2 : Hid (Below w.heap.size w w2 ∧ BoxW w2 w.heap.size (.int .i64 nx) (.int .i64 en) (.bool cl) (.bool fi) (.int .i64 ed) (.int .i64 un) (.int .i64 ms) (.int .i64 rm) (.int .i64 mo) (.bool na) (.bool fo) ∧ BoxR w2 w1.heap.size (.int .i64 f) (.int .i64 t) (.bool n) (.bool p)) := ⟨Below.on HF1.out.1 hB2, HF1.out.2.1.later hB2, HF1.out.2.2.later hB2⟩
  clear HF1 hB2 c2 k0 k1 k2 k3 k4 k5 k6 k7 k8 k9 k10
  obtain ⟨k0, k1, k2, k3, k4, k5, k6, k7, k8, k9, k10⟩ := HF2.out.2.1.cells
  obtain ⟨l0, l1, l2, l3⟩ := HF2.out.2.2.cells
  go_upto_region 3 with fail
  obtain ⟨V, hV⟩ : ∃ V, w2.alloc (.cells #[.int .i64 f, .int .i64 t, .bool n, .bool p] 25) = V := ⟨_, rfl⟩
  have HN : Hid (Below w.heap.size w V ∧ BoxW V w.heap.size (.int .i64 nx) (.int .i64 en) (.bool cl) (.bool fi) (.int .i64 ed) (.int .i64 un) (.int .i64 ms) (.int .i64 rm) (.int .i64 mo) (.bool na) (.bool fo) ∧ BoxR V w1.heap.size (.int .i64 f) (.int .i64 t) (.bool n) (.bool p) ∧ BoxR V w2.heap.size (.int .i64 f) (.int .i64 t) (.bool n) (.bool p)) := by
    rw [← hV]; exact ⟨below_more HF2.out.1 _, HF2.out.2.1.alloc _, HF2.out.2.2.alloc _, BoxR.new _ _ _ _ _⟩
  try rw [hV]
  clear hV k0 k1 k2 k3 k4 k5 k6 k7 k8 k9 k10 l0 l1 l2 l3 HF2
  have HC : Hid (∀ W, Below V.heap.size V W → W.cell? ⟨w.heap.size, 0, none⟩ = some (.int .i64 nx) ∧ W.cell? ⟨w.heap.size, 1, none⟩ = some (.int .i64 en) ∧ W.cell? ⟨w.heap.size, 2, none⟩ = some (.bool cl) ∧ W.cell? ⟨w.heap.size, 3, none⟩ = some (.bool fi) ∧ W.cell? ⟨w.heap.size, 4, none⟩ = some (.int .i64 ed) ∧ W.cell? ⟨w.heap.size, 5, none⟩ = some (.int .i64 un) ∧ W.cell? ⟨w.heap.size, 6, none⟩ = some (.int .i64 ms) ∧ W.cell? ⟨w.heap.size, 7, none⟩ = some (.int .i64 rm) ∧ W.cell? ⟨w.heap.size, 8, none⟩ = some (.int .i64 mo) ∧ W.cell? ⟨w.heap.size, 9, none⟩ = some (.bool na) ∧ W.cell? ⟨w.heap.size, 10, none⟩ = some (.bool fo) ∧ W.cell? ⟨w1.heap.size, 0, none⟩ = some (.int .i64 f) ∧ W.cell? ⟨w1.heap.size, 1, none⟩ = some (.int .i64 t) ∧ W.cell? ⟨w1.heap.size, 2, none⟩ = some (.bool n) ∧ W.cell? ⟨w1.heap.size, 3, none⟩ = some (.bool p) ∧ W.cell? ⟨w2.heap.size, 0, none⟩ = some (.int .i64 f) ∧ W.cell? ⟨w2.heap.size, 1, none⟩ = some (.int .i64 t) ∧ W.cell? ⟨w2.heap.size, 2, none⟩ = some (.bool n) ∧ W.cell? ⟨w2.heap.size, 3, none⟩ = some (.bool p)) := fun W hW => ⟨(HN.out.2.1.later hW).cells.1, (HN.out.2.1.later hW).cells.2.1, (HN.out.2.1.later hW).cells.2.2.1, (HN.out.2.1.later hW).cells.2.2.2.1, (HN.out.2.1.later hW).cells.2.2.2.2.1, (HN.out.2.1.later hW).cells.2.2.2.2.2.1, (HN.out.2.1.later hW).cells.2.2.2.2.2.2.1, (HN.out.2.1.later hW).cells.2.2.2.2.2.2.2.1, (HN.out.2.1.later hW).cells.2.2.2.2.2.2.2.2.1, (HN.out.2.1.later hW).cells.2.2.2.2.2.2.2.2.2.1, (HN.out.2.1.later hW).cells.2.2.2.2.2.2.2.2.2.2, (HN.out.2.2.1.later hW).cells.1, (HN.out.2.2.1.later hW).cells.2.1, (HN.out.2.2.1.later hW).cells.2.2.1, (HN.out.2.2.1.later hW).cells.2.2.2, (HN.out.2.2.2.later hW).cells.1, (HN.out.2.2.2.later hW).cells.2.1, (HN.out.2.2.2.later hW).cells.2.2.1, (HN.out.2.2.2.later hW).cells.2.2.2⟩
  go_region_held3 (fun W => W.cell? ⟨w.heap.size, 0, none⟩ = some (.int .i64 nx) ∧ W.cell? ⟨w.heap.size, 1, none⟩ = some (.int .i64 en) ∧ W.cell? ⟨w.heap.size, 2, none⟩ = some (.bool cl) ∧ W.cell? ⟨w.heap.size, 3, none⟩ = some (.bool fi) ∧ W.cell? ⟨w.heap.size, 4, none⟩ = some (.int .i64 ed) ∧ W.cell? ⟨w.heap.size, 5, none⟩ = some (.int .i64 un) ∧ W.cell? ⟨w.heap.size, 6, none⟩ = some (.int .i64 ms) ∧ W.cell? ⟨w.heap.size, 7, none⟩ = some (.int .i64 rm) ∧ W.cell? ⟨w.heap.size, 8, none⟩ = some (.int .i64 mo) ∧ W.cell? ⟨w.heap.size, 9, none⟩ = some (.bool na) ∧ W.cell? ⟨w.heap.size, 10, none⟩ = some (.bool fo) ∧ W.cell? ⟨w1.heap.size, 0, none⟩ = some (.int .i64 f) ∧ W.cell? ⟨w1.heap.size, 1, none⟩ = some (.int .i64 t) ∧ W.cell? ⟨w1.heap.size, 2, none⟩ = some (.bool n) ∧ W.cell? ⟨w1.heap.size, 3, none⟩ = some (.bool p) ∧ W.cell? ⟨w2.heap.size, 0, none⟩ = some (.int .i64 f) ∧ W.cell? ⟨w2.heap.size, 1, none⟩ = some (.int .i64 t) ∧ W.cell? ⟨w2.heap.size, 2, none⟩ = some (.bool n) ∧ W.cell? ⟨w2.heap.size, 3, none⟩ = some (.bool p) ∧ Below V.heap.size V W)
    (refine ⟨(HC.out _ ?_).1, (HC.out _ ?_).2.1, (HC.out _ ?_).2.2.1, (HC.out _ ?_).2.2.2.1, (HC.out _ ?_).2.2.2.2.1, (HC.out _ ?_).2.2.2.2.2.1, (HC.out _ ?_).2.2.2.2.2.2.1, (HC.out _ ?_).2.2.2.2.2.2.2.1, (HC.out _ ?_).2.2.2.2.2.2.2.2.1, (HC.out _ ?_).2.2.2.2.2.2.2.2.2.1, (HC.out _ ?_).2.2.2.2.2.2.2.2.2.2.1, (HC.out _ ?_).2.2.2.2.2.2.2.2.2.2.2.1, (HC.out _ ?_).2.2.2.2.2.2.2.2.2.2.2.2.1, (HC.out _ ?_).2.2.2.2.2.2.2.2.2.2.2.2.2.1, (HC.out _ ?_).2.2.2.2.2.2.2.2.2.2.2.2.2.2.1, (HC.out _ ?_).2.2.2.2.2.2.2.2.2.2.2.2.2.2.2.1, (HC.out _ ?_).2.2.2.2.2.2.2.2.2.2.2.2.2.2.2.2.1, (HC.out _ ?_).2.2.2.2.2.2.2.2.2.2.2.2.2.2.2.2.2.1, (HC.out _ ?_).2.2.2.2.2.2.2.2.2.2.2.2.2.2.2.2.2.2, ?_⟩ <;> (repeat (first | with_reducible exact Below.refl _ _ | with_reducible assumption | with_reducible refine Below.drew ?_ | with_reducible refine below_drewN ?_ _ | with_reducible refine below_more ?_ _)))
    (first
      | (go_at_call 10; refine (c3 _).mono ?_; rintro e x1 ⟨rfl, hcx1⟩; have hbx1 : Below V.heap.size V x1 := Below.on (by repeat (first | with_reducible exact Below.refl _ _ | with_reducible assumption | with_reducible refine Below.drew ?_ | with_reducible refine below_drewN ?_ _ | with_reducible refine below_more ?_ _)) hcx1)
      | (go_at_call 11; refine (c4 _).mono ?_; rintro e x2 ⟨rfl, hcx2⟩; have hbx2 : Below V.heap.size V x2 := Below.on (by repeat (first | with_reducible exact Below.refl _ _ | with_reducible assumption | with_reducible refine Below.drew ?_ | with_reducible refine below_drewN ?_ _ | with_reducible refine below_more ?_ _)) hcx2)
      | (go_at_call 12; refine (c5 _).mono ?_; rintro e x3 ⟨rfl, hcx3⟩; have hbx3 : Below V.heap.size V x3 := Below.on (by repeat (first | with_reducible exact Below.refl _ _ | with_reducible assumption | with_reducible refine Below.drew ?_ | with_reducible refine below_drewN ?_ _ | with_reducible refine below_more ?_ _)) hcx3)
      | (go_at_call 13; refine (c6 _).mono ?_; rintro e x4 ⟨rfl, hcx4⟩; have hbx4 : Below V.heap.size V x4 := Below.on (by repeat (first | with_reducible exact Below.refl _ _ | with_reducible assumption | with_reducible refine Below.drew ?_ | with_reducible refine below_drewN ?_ _ | with_reducible refine below_more ?_ _)) hcx4)
      | (go_at_call 14; refine (c7 _).mono ?_; rintro e x5 ⟨rfl, hcx5⟩; have hbx5 : Below V.heap.size V x5 := Below.on (by repeat (first | with_reducible exact Below.refl _ _ | with_reducible assumption | with_reducible refine Below.drew ?_ | with_reducible refine below_drewN ?_ _ | with_reducible refine below_more ?_ _)) hcx5))
  go_wp2_with fail
  go_ret
  exact ⟨rfl, Below.on HN.out.1 (by repeat (first | with_reducible exact Below.refl _ _ | with_reducible assumption | with_reducible refine Below.drew ?_ | with_reducible refine below_drewN ?_ _ | with_reducible refine below_more ?_ _))⟩
end Go.Proofs.Ytmfbcdjedegofaa
