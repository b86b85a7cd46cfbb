/- The document's Read, of what may not be. -/
import Derived.Test.YtkigcdmlkmcdcaaZ
import Derived.Test.YtkigcdmlkmcdcaaMRefTlT
namespace Go.Proofs.Ytkigcdmlkmcdcaa
open Go.ChangeShapes Go.WideShapes Go.ChangeAt Go.RowKit
set_option linter.unusedVariables false
set_option linter.unusedSimpArgs false

set_option maxRecDepth 100000 in
set_option maxHeartbeats 8000000 in
theorem refRead_no (r : Pl.Rv) (h : Hd) (n : Int) (w : World) (H : RvAt w r h) (hok : ¬ r.Ok) :
 Calls Try.prog 19 #[.agg #[.int .i64 r.s.n, .slice h.ua r.s.u.length h.uc, .slice h.la h.es.length h.lc, .int .i64 r.cap, .int .i64 r.shift, .int .i64 r.edge, .int .u32 r.recent, .bool r.stamps, .bool r.sacks, .int .i64 r.fin, .bool r.dn, .slice h.fa r.first.length h.fc, .int .u32 r.irs, .int .u32 r.own, .bool r.stamp], .int .i64 n] w fun e w' => e = .returned (.tuple #[.agg #[.int .i64 0, .slice none 0 0, .slice none 0 0, .int .i64 0, .int .i64 0, .int .i64 0, .int .u32 0, .bool false, .bool false, .int .i64 0, .bool false, .slice none 0 0, .int .u32 0, .int .u32 0, .bool false], .slice none 0 0, .agg #[.int .i64 0, .int .i64 0, .int .u32 0, .int .u32 0, .int .i64 0, .int .i64 0, .int .i64 0, .int .i64 0, .int .i64 0, .bool false, .bool false, .int .u32 0, .int .u32 0, .slice none 0 0, .slice none 0 0], .bool false, .int .i64 230]) ∧ Below w.heap.size w w' := by
 obtain ⟨W0, hW0⟩ : ∃ W0, ((w.alloc (.cells #[.int .i64 r.s.n, .slice h.ua r.s.u.length h.uc, .slice h.la h.es.length h.lc, .int .i64 r.cap, .int .i64 r.shift, .int .i64 r.edge, .int .u32 r.recent, .bool r.stamps, .bool r.sacks, .int .i64 r.fin, .bool r.dn, .slice h.fa r.first.length h.fc, .int .u32 r.irs, .int .u32 r.own, .bool r.stamp] 27)).alloc (.cells zR.toArray 27)).alloc (.cells zS.toArray 34) = W0 := ⟨_, rfl⟩
 obtain ⟨hX, hZ, hZS, hs0, b0⟩ : Box W0 w.heap.size 27 (rvL r h) ∧ Box W0 (w.heap.size + 1) 27 zR ∧ Box W0 (w.heap.size + 2) 34 zS ∧ W0.heap.size = w.heap.size + 3 ∧ Below w.heap.size w W0 := by rw [← hW0]; exact zdl w (rvL r h)
 have HX : Hid (Box W0 (w.heap.size + 1) 27 zR ∧ Box W0 (w.heap.size + 2) 34 zS ∧ Below w.heap.size w W0) := ⟨hZ, hZS, b0⟩
 obtain ⟨c0, c1, c2, c3, c4, c5, c6, c7, c8, c9, c10, c11, c12, c13, c14⟩ := Box.c15 hX
 have cC := zfd r h W0 (H.later b0) hok
 clear hX hZ hZS hs0 b0 H hok
 go_enter Try.func19, Try.ntmps19
 go_wp2_with fail
 refine cC.mono ?_
 rintro e w1 ⟨rfl, hB⟩
 clear c0 c1 c2 c3 c4 c5 c6 c7 c8 c9 c10 c11 c12 c13 c14 cC hW0
 have hz1 := HX.out.1.later hB
 have hz2 := HX.out.2.1.later hB
 have b1 : Box (setAll (setAll w1 (w.heap.size + 1) 0 zR) (w.heap.size + 2) 0 zS) (w.heap.size + 1) 27 zR := (hz1.put zR rfl).putAside _ _ _ (by omega)
 have b2 : Box (setAll (setAll w1 (w.heap.size + 1) 0 zR) (w.heap.size + 2) 0 zS) (w.heap.size + 2) 34 zS := (hz2.putAside _ _ _ (by omega)).put _ rfl
 have hb3 : Below w.heap.size w (setAll (setAll w1 (w.heap.size + 1) 0 zR) (w.heap.size + 2) 0 zS) := zah (by omega) (zah (by omega) (Below.on HX.out.2.2 hB))
 have HF : Hid (Box (setAll (setAll w1 (w.heap.size + 1) 0 zR) (w.heap.size + 2) 0 zS) (w.heap.size + 1) 27 zR ∧ Box (setAll (setAll w1 (w.heap.size + 1) 0 zR) (w.heap.size + 2) 0 zS) (w.heap.size + 2) 34 zS ∧ Below w.heap.size w (setAll (setAll w1 (w.heap.size + 1) 0 zR) (w.heap.size + 2) 0 zS)) := ⟨b1, b2, hb3⟩
 obtain ⟨c0, c1, c2, c3, c4, c5, c6, c7, c8, c9, c10, c11, c12, c13, c14⟩ := Box.c15 hz1
 obtain ⟨f0, f1, f2, f3, f4, f5, f6, f7, f8, f9, f10, f11, f12, f13, f14⟩ := Box.f15 hz1
 obtain ⟨d0, d1, d2, d3, d4, d5, d6, d7, d8, d9, d10, d11, d12, d13, d14⟩ := Box.c15 hz2
 obtain ⟨e0, e1, e2, e3, e4, e5, e6, e7, e8, e9, e10, e11, e12, e13, e14⟩ := Box.f15 hz2
 clear hz1 hz2 b1 b2 hb3 hB HX
 go_wp2_with fail
 refine bodyPost_ret (zch rfl _ _ (w.heap.size + 1) (w.heap.size + 2) _ _ rfl rfl rfl rfl HF.out.1 HF.out.2.1) rfl ?_
 exact ⟨rfl, HF.out.2.2⟩
end Go.Proofs.Ytkigcdmlkmcdcaa

