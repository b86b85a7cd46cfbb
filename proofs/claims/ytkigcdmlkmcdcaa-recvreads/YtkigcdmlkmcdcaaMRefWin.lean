/- The document's Window. -/
import Derived.Test.YtkigcdmlkmcdcaaZ
import Derived.Test.YtkigcdmlkmcdcaaMRefChkW
namespace Go.Proofs.Ytkigcdmlkmcdcaa
open Go.ChangeShapes Go.WideShapes Go.ChangeAt Go.RowKit
set_option linter.unusedVariables false
set_option linter.unusedSimpArgs false

theorem ok_lowB {r : Pl.Rv} (ho : r.Ok) : lowB r := ⟨⟨ho.n0, ho.nf⟩, ⟨ho.c1, ho.cm⟩, ⟨ho.s0, ho.s14⟩, ho.uc, ho.un⟩
set_option maxRecDepth 100000 in
set_option maxHeartbeats 4000000 in
theorem refWin_ok (r : Pl.Rv) (h : Hd) (w : World) (H : RvAt w r h) (hok : r.Ok) : Calls Try.prog 22 #[.agg #[.int .i64 r.s.n, .slice h.ua r.s.u.length h.uc, .slice h.la h.es.length h.lc, .int .i64 r.cap, .int .i64 r.shift, .int .i64 r.edge, .int .u32 r.recent, .bool r.stamps, .bool r.sacks, .int .i64 r.fin, .bool r.dn, .slice h.fa r.first.length h.fc, .int .u32 r.irs, .int .u32 r.own, .bool r.stamp]] w fun e w' => e = .returned (.int .i64 r.window) ∧ Below w.heap.size w w' := by
 obtain ⟨W0, hW0⟩ : ∃ W0, w.alloc (.cells #[.int .i64 r.s.n, .slice h.ua r.s.u.length h.uc, .slice h.la h.es.length h.lc, .int .i64 r.cap, .int .i64 r.shift, .int .i64 r.edge, .int .u32 r.recent, .bool r.stamps, .bool r.sacks, .int .i64 r.fin, .bool r.dn, .slice h.fa r.first.length h.fc, .int .u32 r.irs, .int .u32 r.own, .bool r.stamp] 27) = W0 := ⟨_, rfl⟩
 have hX : Box W0 w.heap.size 27 (rvL r h) := by rw [← hW0]; exact Box.new w 27 (rvL r h)
 have b0 : Below w.heap.size w W0 := by rw [← hW0]; exact zaa (Below.refl _ _) _
 have kc1 := zfc r h W0 (H.later b0) hok
 have kc2 := fun W => zcg r h W (ok_lowB hok)
 have HX : Hid (Box W0 w.heap.size 27 (rvL r h) ∧ Below w.heap.size w W0) := ⟨hX, b0⟩
 obtain ⟨wn, hwn⟩ : ∃ x, r.window = x := ⟨_, rfl⟩
 rw [hwn] at kc2 ⊢
 obtain ⟨c0, c1, c2, c3, c4, c5, c6, c7, c8, c9, c10, c11, c12, c13, c14⟩ := Box.c15 hX
 clear hX b0 H hok hwn
 go_enter Try.func22, Try.ntmps22
 go_wp2_with fail
 refine kc1.mono ?_
 rintro e w1 ⟨rfl, hB1⟩
 clear c0 c1 c2 c3 c4 c5 c6 c7 c8 c9 c10 c11 c12 c13 c14 hW0 kc1
 obtain ⟨c0, c1, c2, c3, c4, c5, c6, c7, c8, c9, c10, c11, c12, c13, c14⟩ := Box.c15 (HX.out.1.later hB1)
 have HB : Hid (Below w.heap.size w w1) := Below.on HX.out.2 hB1
 clear hB1
 go_wp2_with fail
 refine (kc2 _).mono ?_
 rintro e w2 ⟨rfl, hB2⟩
 go_wp2_with fail
 go_ret
 exact ⟨rfl, Below.on HB.out hB2⟩
set_option maxRecDepth 100000 in
set_option maxHeartbeats 4000000 in
theorem refWin_no (r : Pl.Rv) (h : Hd) (w : World) (H : RvAt w r h) (hno : ¬ r.Ok) : Calls Try.prog 22 #[.agg #[.int .i64 r.s.n, .slice h.ua r.s.u.length h.uc, .slice h.la h.es.length h.lc, .int .i64 r.cap, .int .i64 r.shift, .int .i64 r.edge, .int .u32 r.recent, .bool r.stamps, .bool r.sacks, .int .i64 r.fin, .bool r.dn, .slice h.fa r.first.length h.fc, .int .u32 r.irs, .int .u32 r.own, .bool r.stamp]] w fun e w' => e = .returned (.int .i64 0) ∧ Below w.heap.size w w' := by
 obtain ⟨W0, hW0⟩ : ∃ W0, w.alloc (.cells #[.int .i64 r.s.n, .slice h.ua r.s.u.length h.uc, .slice h.la h.es.length h.lc, .int .i64 r.cap, .int .i64 r.shift, .int .i64 r.edge, .int .u32 r.recent, .bool r.stamps, .bool r.sacks, .int .i64 r.fin, .bool r.dn, .slice h.fa r.first.length h.fc, .int .u32 r.irs, .int .u32 r.own, .bool r.stamp] 27) = W0 := ⟨_, rfl⟩
 have hX : Box W0 w.heap.size 27 (rvL r h) := by rw [← hW0]; exact Box.new w 27 (rvL r h)
 have b0 : Below w.heap.size w W0 := by rw [← hW0]; exact zaa (Below.refl _ _) _
 have kc1 := zfd r h W0 (H.later b0) hno
 have HX : Hid (Below w.heap.size w W0) := b0
 obtain ⟨c0, c1, c2, c3, c4, c5, c6, c7, c8, c9, c10, c11, c12, c13, c14⟩ := Box.c15 hX
 clear hX b0 H hno
 go_enter Try.func22, Try.ntmps22
 go_wp2_with fail
 refine kc1.mono ?_
 rintro e w1 ⟨rfl, hB1⟩
 clear c0 c1 c2 c3 c4 c5 c6 c7 c8 c9 c10 c11 c12 c13 c14 hW0 kc1
 go_wp2_with fail
 go_ret
 exact ⟨rfl, Below.on HX.out hB1⟩
end Go.Proofs.Ytkigcdmlkmcdcaa

