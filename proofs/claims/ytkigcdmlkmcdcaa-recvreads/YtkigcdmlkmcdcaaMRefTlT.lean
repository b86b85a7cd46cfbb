/- The document's Tell. -/
import Derived.Test.YtkigcdmlkmcdcaaZ
import Derived.Test.YtkigcdmlkmcdcaaMRefTel2
namespace Go.Proofs.Ytkigcdmlkmcdcaa
open Go.ChangeShapes Go.WideShapes Go.ChangeAt Go.RowKit
set_option linter.unusedVariables false
set_option linter.unusedSimpArgs false

set_option maxRecDepth 100000 in
set_option maxHeartbeats 8000000 in
theorem refTellT_no (r : Pl.Rv) (h : Hd) (w : World) (H : RvAt w r h) (hok : ¬ r.Ok) :
 Calls Try.prog 20 #[.agg #[.int .i64 r.s.n, .slice h.ua r.s.u.length h.uc, .slice h.la h.es.length h.lc, .int .i64 r.cap, .int .i64 r.shift, .int .i64 r.edge, .int .u32 r.recent, .bool r.stamps, .bool r.sacks, .int .i64 r.fin, .bool r.dn, .slice h.fa r.first.length h.fc, .int .u32 r.irs, .int .u32 r.own, .bool r.stamp]] w fun e w' => e = .returned (.tuple #[.agg #[.int .i64 0, .slice none 0 0, .slice none 0 0, .int .i64 0, .int .i64 0, .int .i64 0, .int .u32 0, .bool false, .bool false, .int .i64 0, .bool false, .slice none 0 0, .int .u32 0, .int .u32 0, .bool false], .agg #[.int .i64 0, .int .i64 0, .int .u32 0, .int .u32 0, .int .i64 0, .int .i64 0, .int .i64 0, .int .i64 0, .int .i64 0, .bool false, .bool false, .int .u32 0, .int .u32 0, .slice none 0 0, .slice none 0 0]]) ∧ Below w.heap.size w w' := by
 obtain ⟨W0, hW0⟩ : ∃ W0, ((w.alloc (.cells #[.int .i64 r.s.n, .slice h.ua r.s.u.length h.uc, .slice h.la h.es.length h.lc, .int .i64 r.cap, .int .i64 r.shift, .int .i64 r.edge, .int .u32 r.recent, .bool r.stamps, .bool r.sacks, .int .i64 r.fin, .bool r.dn, .slice h.fa r.first.length h.fc, .int .u32 r.irs, .int .u32 r.own, .bool r.stamp] 27)).alloc (.cells zR.toArray 27)).alloc (.cells zS.toArray 34) = W0 := ⟨_, rfl⟩
 obtain ⟨hX, hZ, hZS, hs0, b0⟩ : Box W0 w.heap.size 27 (rvL r h) ∧ Box W0 (w.heap.size + 1) 27 zR ∧ Box W0 (w.heap.size + 2) 34 zS ∧ W0.heap.size = w.heap.size + 3 ∧ Below w.heap.size w W0 := by rw [← hW0]; exact zdl w (rvL r h)
 have HX : Hid (Box W0 (w.heap.size + 1) 27 zR ∧ Box W0 (w.heap.size + 2) 34 zS ∧ Below w.heap.size w W0) := ⟨hZ, hZS, b0⟩
 obtain ⟨c0, c1, c2, c3, c4, c5, c6, c7, c8, c9, c10, c11, c12, c13, c14⟩ := Box.c15 hX
 have cC := zfd r h W0 (H.later b0) hok
 clear hX hZ hZS hs0 b0 H hok
 go_enter Try.func20, Try.ntmps20
 go_wp2_with fail
 refine cC.mono ?_
 rintro e w1 ⟨rfl, hB⟩
 clear c0 c1 c2 c3 c4 c5 c6 c7 c8 c9 c10 c11 c12 c13 c14 cC hW0
 have hz1 := HX.out.1.later hB
 have hz2 := HX.out.2.1.later hB
 have b1 : Box (setAll (setAll w1 (w.heap.size + 1) 0 zR) (w.heap.size + 2) 0 zS) (w.heap.size + 1) 27 zR := (hz1.put zR rfl).putAside _ _ _ (by omega)
 have b2 : Box (setAll (setAll w1 (w.heap.size + 1) 0 zR) (w.heap.size + 2) 0 zS) (w.heap.size + 2) 34 zS := (hz2.putAside _ _ _ (by omega)).put _ rfl
 have hb3 : Below w.heap.size w (setAll (setAll w1 (w.heap.size + 1) 0 zR) (w.heap.size + 2) 0 zS) := zah (by omega) (zah (by omega) (Below.on HX.out.2.2 hB))
 have HF : Hid (Box (setAll (setAll w1 (w.heap.size + 1) 0 zR) (w.heap.size + 2) 0 zS) (w.heap.size + 1) 27 zR ∧ Box (setAll (setAll w1 (w.heap.size + 1) 0 zR) (w.heap.size + 2) 0 zS) (w.heap.size + 2) 34 zS ∧ Below w.heap.size w (setAll (setAll w1 (w.heap.size + 1) 0 zR) (w.heap.size + 2) 0 zS)) := ⟨b1, b2, hb3⟩
 obtain ⟨c0, c1, c2, c3, c4, c5, c6, c7, c8, c9, c10, c11, c12, c13, c14⟩ := Box.c15 hz1
 obtain ⟨f0, f1, f2, f3, f4, f5, f6, f7, f8, f9, f10, f11, f12, f13, f14⟩ := Box.f15 hz1
 obtain ⟨d0, d1, d2, d3, d4, d5, d6, d7, d8, d9, d10, d11, d12, d13, d14⟩ := Box.c15 hz2
 obtain ⟨e0, e1, e2, e3, e4, e5, e6, e7, e8, e9, e10, e11, e12, e13, e14⟩ := Box.f15 hz2
 clear hz1 hz2 b1 b2 hb3 hB HX
 go_wp2_with fail
 refine bodyPost_ret (zfx rfl _ _ (w.heap.size + 1) (w.heap.size + 2) _ _ rfl rfl rfl rfl HF.out.1 HF.out.2.1) rfl ?_
 exact ⟨rfl, HF.out.2.2⟩
set_option maxRecDepth 100000 in
set_option maxHeartbeats 8000000 in
theorem refTellT_ok (r : Pl.Rv) (h : Hd) (w : World) (H : RvAt w r h) (hok : r.Ok) :
 Calls Try.prog 20 #[.agg #[.int .i64 r.s.n, .slice h.ua r.s.u.length h.uc, .slice h.la h.es.length h.lc, .int .i64 r.cap, .int .i64 r.shift, .int .i64 r.edge, .int .u32 r.recent, .bool r.stamps, .bool r.sacks, .int .i64 r.fin, .bool r.dn, .slice h.fa r.first.length h.fc, .int .u32 r.irs, .int .u32 r.own, .bool r.stamp]] w fun e w' => ∃ (k : Hd) (ks : Hs), e = .returned (.tuple #[.agg #[.int .i64 (Pl.tellR r).s.n, .slice k.ua (Pl.tellR r).s.u.length k.uc, .slice k.la k.es.length k.lc, .int .i64 (Pl.tellR r).cap, .int .i64 (Pl.tellR r).shift, .int .i64 (Pl.tellR r).edge, .int .u32 (Pl.tellR r).recent, .bool (Pl.tellR r).stamps, .bool (Pl.tellR r).sacks, .int .i64 (Pl.tellR r).fin, .bool (Pl.tellR r).dn, .slice k.fa (Pl.tellR r).first.length k.fc, .int .u32 (Pl.tellR r).irs, .int .u32 (Pl.tellR r).own, .bool (Pl.tellR r).stamp], .agg #[.int .i64 (tellS r r.first).sp, .int .i64 (tellS r r.first).dp, .int .u32 (tellS r r.first).sq, .int .u32 (tellS r r.first).ak, .int .i64 (tellS r r.first).fl, .int .i64 (tellS r r.first).wn, .int .i64 (tellS r r.first).ur, .int .i64 (tellS r r.first).ms, .int .i64 (tellS r r.first).sc, .bool (tellS r r.first).so, .bool (tellS r r.first).st, .int .u32 (tellS r r.first).va, .int .u32 (tellS r r.first).ec, .slice ks.ka (tellS r r.first).sk.length ks.kc, .slice ks.da (tellS r r.first).da.length ks.dc]]) ∧ RvOwn w' w.heap.size (Pl.tellR r) k ∧ SgOwn w' w.heap.size (tellS r r.first) ks ∧ Below w.heap.size w w' := by
 obtain ⟨W0, hW0⟩ : ∃ W0, ((w.alloc (.cells #[.int .i64 r.s.n, .slice h.ua r.s.u.length h.uc, .slice h.la h.es.length h.lc, .int .i64 r.cap, .int .i64 r.shift, .int .i64 r.edge, .int .u32 r.recent, .bool r.stamps, .bool r.sacks, .int .i64 r.fin, .bool r.dn, .slice h.fa r.first.length h.fc, .int .u32 r.irs, .int .u32 r.own, .bool r.stamp] 27)).alloc (.cells zR.toArray 27)).alloc (.cells zS.toArray 34) = W0 := ⟨_, rfl⟩
 obtain ⟨hX, hZ, hZS, hs0, b0⟩ : Box W0 w.heap.size 27 (rvL r h) ∧ Box W0 (w.heap.size + 1) 27 zR ∧ Box W0 (w.heap.size + 2) 34 zS ∧ W0.heap.size = w.heap.size + 3 ∧ Below w.heap.size w W0 := by rw [← hW0]; exact zdl w (rvL r h)
 have HX : Hid (Box W0 w.heap.size 27 (rvL r h) ∧ Box W0 (w.heap.size + 1) 27 zR ∧ Box W0 (w.heap.size + 2) 34 zS ∧ Below w.heap.size w W0 ∧ W0.heap.size = w.heap.size + 3) := ⟨hX, hZ, hZS, b0, hs0⟩
 have HH : Hid (RvAt w r h ∧ r.Ok) := ⟨H, hok⟩
 obtain ⟨c0, c1, c2, c3, c4, c5, c6, c7, c8, c9, c10, c11, c12, c13, c14⟩ := Box.c15 hX
 have cC := zfc r h W0 (H.later b0) hok
 clear hX hZ hZS hs0 b0 H hok
 go_enter Try.func20, Try.ntmps20
 go_wp2_with fail
 refine cC.mono ?_
 rintro e w1 ⟨rfl, hB1⟩
 have HB1 : Hid (Below w.heap.size w w1 ∧ Below W0.heap.size W0 w1) := ⟨Below.on HX.out.2.2.2.1 hB1, hB1⟩
 clear c0 c1 c2 c3 c4 c5 c6 c7 c8 c9 c10 c11 c12 c13 c14 cC hW0 hB1
 obtain ⟨c0, c1, c2, c3, c4, c5, c6, c7, c8, c9, c10, c11, c12, c13, c14⟩ := Box.c15 (HX.out.1.later HB1.out.2)
 go_wp2_with fail
 refine (ze9 r h w1 (HH.out.1.later HB1.out.1) HH.out.2).mono ?_
 rintro e w2 ⟨k, ks, rfl, hO, hS, hB2⟩
 clear c0 c1 c2 c3 c4 c5 c6 c7 c8 c9 c10 c11 c12 c13 c14
 obtain ⟨R, hR⟩ : ∃ R, Pl.tellR r = R := ⟨_, rfl⟩
 obtain ⟨T, hT⟩ : ∃ T, tellS r r.first = T := ⟨_, rfl⟩
 have HRT : Hid (Pl.tellR r = R ∧ tellS r r.first = T) := ⟨hR, hT⟩
 rw [hR, hT]
 rw [hR] at hO
 rw [hT] at hS
 clear hR hT
 have hz1 := (HX.out.2.1.later HB1.out.2).later hB2
 have hz2 := (HX.out.2.2.1.later HB1.out.2).later hB2
 have hb0 : Below w.heap.size w w2 := Below.on HB1.out.1 hB2
 have q1 : Box (setAll w2 (w.heap.size + 1) 0 (rvL R k)) (w.heap.size + 1) 27 (rvL R k) := hz1.put _ rfl
 have q2 : Box (setAll w2 (w.heap.size + 1) 0 (rvL R k)) (w.heap.size + 2) 34 zS := hz2.putAside _ _ _ (by omega)
 have HF : Hid (Box (setAll (setAll w2 (w.heap.size + 1) 0 (rvL R k)) (w.heap.size + 2) 0 (sgL T ks)) (w.heap.size + 1) 27 (rvL R k) ∧ Box (setAll (setAll w2 (w.heap.size + 1) 0 (rvL R k)) (w.heap.size + 2) 0 (sgL T ks)) (w.heap.size + 2) 34 (sgL T ks) ∧ RvOwn (setAll (setAll w2 (w.heap.size + 1) 0 (rvL R k)) (w.heap.size + 2) 0 (sgL T ks)) w.heap.size R k ∧ SgOwn (setAll (setAll w2 (w.heap.size + 1) 0 (rvL R k)) (w.heap.size + 2) 0 (sgL T ks)) w.heap.size T ks ∧ Below w.heap.size w (setAll (setAll w2 (w.heap.size + 1) 0 (rvL R k)) (w.heap.size + 2) 0 (sgL T ks))) :=
  ⟨q1.putAside _ _ _ (by omega), q2.put _ rfl, ((hO.mono HB1.out.1.size).besideR hz1 0 _).besideS q2 0 _, SgOwn.besideS { (hS.mono HB1.out.1.size) with row := zat (hS.mono HB1.out.1.size).row hz1 (by decide) _ _ } q2 0 _, zah (by omega) (zah (by omega) hb0)⟩
 obtain ⟨c0, c1, c2, c3, c4, c5, c6, c7, c8, c9, c10, c11, c12, c13, c14⟩ := Box.c15 hz1
 obtain ⟨f0, f1, f2, f3, f4, f5, f6, f7, f8, f9, f10, f11, f12, f13, f14⟩ := Box.f15 hz1
 obtain ⟨d0, d1, d2, d3, d4, d5, d6, d7, d8, d9, d10, d11, d12, d13, d14⟩ := Box.c15 hz2
 obtain ⟨e0, e1, e2, e3, e4, e5, e6, e7, e8, e9, e10, e11, e12, e13, e14⟩ := Box.f15 hz2
 clear hz1 hz2 q1 q2 hb0 hB2 hO hS HX
 go_wp2_with fail
 refine bodyPost_ret (zfx rfl _ _ (w.heap.size + 1) (w.heap.size + 2) _ _ rfl rfl rfl rfl HF.out.1 HF.out.2.1) rfl ?_
 rw [HRT.out.1, HRT.out.2]
 exact ⟨k, ks, rfl, HF.out.2.2⟩
end Go.Proofs.Ytkigcdmlkmcdcaa

