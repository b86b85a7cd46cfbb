/- The walk of RecvOld: a segment of old comes. -/
import Derived.Test.YtkigcdmlkmcdcaaMOldWalk
namespace Go.Proofs.Ytkigcdmlkmcdcaa
open Go.ChangeShapes Go.WideShapes Go.ChangeAt Go.RowKit
set_option linter.unusedVariables false
set_option linter.unusedSimpArgs false

set_option maxRecDepth 100000 in
set_option maxHeartbeats 4000000 in
theorem old_y (r : Pl.Rv) (h : Hd) (s : Seg) (ks : Hs) (bh : Int) (w : World) (H : RvAt w r h) (hok : r.Ok) (Q7 : Hid (r.stamps = true)) (Q14 : Hid (r.stamp = true)) (hb0 : ¬ bh < 1) (hb1 : ¬ 2147483647 < bh) (L : Nat) (QL : Hid (s.da.length = L)) (hL : ¬ 500 < L) (HG : Hid (SgAt w s ks)) : Calls Try.prog 4 #[.agg #[.int .i64 r.s.n, .slice h.ua r.s.u.length h.uc, .slice h.la h.es.length h.lc, .int .i64 r.cap, .int .i64 r.shift, .int .i64 r.edge, .int .u32 r.recent, .bool r.stamps, .bool r.sacks, .int .i64 r.fin, .bool r.dn, .slice h.fa r.first.length h.fc, .int .u32 r.irs, .int .u32 r.own, .bool r.stamp], .agg #[.int .i64 s.sp, .int .i64 s.dp, .int .u32 s.sq, .int .u32 s.ak, .int .i64 s.fl, .int .i64 s.wn, .int .i64 s.ur, .int .i64 s.ms, .int .i64 s.sc, .bool s.so, .bool s.st, .int .u32 s.va, .int .u32 s.ec, .slice ks.ka s.sk.length ks.kc, .slice ks.da s.da.length ks.dc], .int .i64 bh] w fun e w' => e = .returned (.bool true) ∧ Below w.heap.size w w' := by
  obtain ⟨W0, hW0⟩ : ∃ W0, (w.alloc (.cells #[.int .i64 r.s.n, .slice h.ua r.s.u.length h.uc, .slice h.la h.es.length h.lc, .int .i64 r.cap, .int .i64 r.shift, .int .i64 r.edge, .int .u32 r.recent, .bool r.stamps, .bool r.sacks, .int .i64 r.fin, .bool r.dn, .slice h.fa r.first.length h.fc, .int .u32 r.irs, .int .u32 r.own, .bool r.stamp] 27)).alloc (.cells #[.int .i64 s.sp, .int .i64 s.dp, .int .u32 s.sq, .int .u32 s.ak, .int .i64 s.fl, .int .i64 s.wn, .int .i64 s.ur, .int .i64 s.ms, .int .i64 s.sc, .bool s.so, .bool s.st, .int .u32 s.va, .int .u32 s.ec, .slice ks.ka s.sk.length ks.kc, .slice ks.da s.da.length ks.dc] 34) = W0 := ⟨_, rfl⟩
  obtain ⟨hX, hG, hs0, b0⟩ := boxes2 w r h s ks hW0
  obtain ⟨c0, c1, c2, c3, c4, c5, c6, c7, c8, c9, c10, c11, c12, c13, c14⟩ := Box.c15 hX
  have k1 := recvCheck_ok r h W0 (H.later b0) hok
  have HB : Hid (Below w.heap.size w W0 ∧ Box W0 w.heap.size 27 [.int .i64 r.s.n, .slice h.ua r.s.u.length h.uc, .slice h.la h.es.length h.lc, .int .i64 r.cap, .int .i64 r.shift, .int .i64 r.edge, .int .u32 r.recent, .bool r.stamps, .bool r.sacks, .int .i64 r.fin, .bool r.dn, .slice h.fa r.first.length h.fc, .int .u32 r.irs, .int .u32 r.own, .bool r.stamp] ∧ Box W0 (w.heap.size + 1) 34 [.int .i64 s.sp, .int .i64 s.dp, .int .u32 s.sq, .int .u32 s.ak, .int .i64 s.fl, .int .i64 s.wn, .int .i64 s.ur, .int .i64 s.ms, .int .i64 s.sc, .bool s.so, .bool s.st, .int .u32 s.va, .int .u32 s.ec, .slice ks.ka s.sk.length ks.kc, .slice ks.da s.da.length ks.dc]) := ⟨b0, hX, hG⟩
  have k2 := heads_any
  have HH : Hid (RvAt w r h ∧ r.Ok) := ⟨H, hok⟩
  clear hX hG hs0 b0 H hok
  go_enter Try.func4, Try.ntmps4
  go_wp2_with fail
  refine k1.mono ?_
  rintro e w1 ⟨rfl, hB1⟩
  clear c0 c1 c2 c3 c4 c5 c6 c7 c8 c9 c10 c11 c12 c13 c14 k1 hW0
  obtain ⟨c0, c1, c2, c3, c4, c5, c6, c7, c8, c9, c10, c11, c12, c13, c14⟩ := Box.c15 (HB.out.2.1.later hB1)
  obtain ⟨d0, d1, d2, d3, d4, d5, d6, d7, d8, d9, d10, d11, d12, d13, d14⟩ := Box.c15 (HB.out.2.2.later hB1)
  rw [Q7.out] at c7
  rw [Q14.out] at c14
  rw [QL.out] at d14
  have hL' : ¬ (500 : Int) < (L : Int) := by omega
  have hlt : w.heap.size < w1.heap.size := (HB.out.2.1.later hB1).lt
  have hlt1 : w.heap.size + 1 < w1.heap.size := (HB.out.2.2.later hB1).lt
  go_wp2_with fail
  obtain ⟨X1, hX1⟩ : ∃ X1, w1.alloc (.cells #[.int .i64 s.sp, .int .i64 s.dp, .int .u32 s.sq, .int .u32 s.ak, .int .i64 s.fl, .int .i64 s.wn, .int .i64 s.ur, .int .i64 s.ms, .int .i64 s.sc, .bool s.so, .bool true, .int .u32 ((r.recent - bh) % 4294967296), .int .u32 s.ec, .slice ks.ka s.sk.length ks.kc, .slice ks.da L ks.dc] 34) = X1 := ⟨_, rfl⟩
  have bX1 : Below W0.heap.size W0 X1 := by rw [← hX1]; exact below_more hB1 _
  obtain ⟨R, hR⟩ : ∃ R, Pl.tellR r = R := ⟨_, rfl⟩
  obtain ⟨T, hT⟩ : ∃ T, tellS r r.first = T := ⟨_, rfl⟩
  have hRR : R.s.n = r.s.n ∧ R.recent = r.recent ∧ R.fin = r.fin ∧ R.s.l = r.s.l := by rw [← hR]; exact ⟨rfl, rfl, rfl, rfl⟩
  have kI : Calls Try.prog 14 #[.agg #[.int .i64 r.s.n, .slice h.ua r.s.u.length h.uc, .slice h.la h.es.length h.lc, .int .i64 r.cap, .int .i64 r.shift, .int .i64 r.edge, .int .u32 r.recent, .bool true, .bool r.sacks, .int .i64 r.fin, .bool r.dn, .slice h.fa r.first.length h.fc, .int .u32 r.irs, .int .u32 r.own, .bool true], .agg #[.int .i64 s.sp, .int .i64 s.dp, .int .u32 s.sq, .int .u32 s.ak, .int .i64 s.fl, .int .i64 s.wn, .int .i64 s.ur, .int .i64 s.ms, .int .i64 s.sc, .bool s.so, .bool true, .int .u32 ((r.recent - bh) % 4294967296), .int .u32 s.ec, .slice ks.ka s.sk.length ks.kc, .slice ks.da L ks.dc]] X1 fun e w' => ∃ (k : Hd) (kt : Hs), e = .returned (.tuple #[.agg #[.int .i64 R.s.n, .slice k.ua R.s.u.length k.uc, .slice k.la k.es.length k.lc, .int .i64 R.cap, .int .i64 R.shift, .int .i64 R.edge, .int .u32 R.recent, .bool R.stamps, .bool R.sacks, .int .i64 R.fin, .bool R.dn, .slice k.fa R.first.length k.fc, .int .u32 R.irs, .int .u32 R.own, .bool R.stamp], .agg #[.int .i64 T.sp, .int .i64 T.dp, .int .u32 T.sq, .int .u32 T.ak, .int .i64 T.fl, .int .i64 T.wn, .int .i64 T.ur, .int .i64 T.ms, .int .i64 T.sc, .bool T.so, .bool T.st, .int .u32 T.va, .int .u32 T.ec, .slice kt.ka T.sk.length kt.kc, .slice kt.da T.da.length kt.dc], .bool true, .int .i64 0]) ∧ (k.es.length = h.es.length) ∧ Below X1.heap.size X1 w' := by
    have q7 := Q7.out
    have q14 := Q14.out
    have qL := QL.out
    subst qL
    have hS := HG.out.later (Below.on HB.out.1 bX1)
    have hA := HH.out.1.later (Below.on HB.out.1 bX1)
    have hold : Pl.oldB r (segOf { s with st := true, va := (r.recent - bh) % 4294967296 }) = true := by
      have hv : Pl.dfI r.recent ((r.recent - bh) % 4294967296) < 0 := Pl.old_is (by omega) (by omega) (by have := hA.recent; unfold U32 at this; omega)
      unfold Pl.oldB
      simp [q7, q14]
      exact hv
    have key := recvInput_in r h { s with st := true, va := (r.recent - bh) % 4294967296 } ks X1 hA HH.out.2 ⟨hS.blks, hS.data, hS.sq, by show 0 ≤ (r.recent - bh) % 4294967296 ∧ (r.recent - bh) % 4294967296 ≤ 4294967295; omega, hS.fl⟩ (.inr rfl) r (by rw [if_pos hold]) r.first (by rw [if_pos hold])
    rw [hR, hT] at key
    rw [q7, q14] at key
    refine key.mono ?_
    rintro e w' ⟨k, kt, he, hO, _, hb⟩
    refine ⟨k, kt, he, ?_, hb⟩
    have e1 := congrArg List.length hO.les
    have e2 := congrArg List.length hA.les
    rw [hRR.2.2.2] at e1
    simp only [List.length_map] at e1 e2
    omega
  have HK : Hid (R.s.n = r.s.n ∧ R.recent = r.recent ∧ R.fin = r.fin ∧ Below W0.heap.size W0 X1) := ⟨hRR.1, hRR.2.1, hRR.2.2.1, bX1⟩
  clear hRR hR hT bX1
  rw [hX1]
  refine kI.mono ?_
  rintro e w2 ⟨k, kt, rfl, hkl, hB2⟩
  clear c0 c1 c2 c3 c4 c5 c6 c7 c8 c9 c10 c11 c12 c13 c14 d0 d1 d2 d3 d4 d5 d6 d7 d8 d9 d10 d11 d12 d13 d14 hX1 kI
  as_aux_lemma =>
    have hB02 : Below W0.heap.size W0 w2 := Below.on HK.out.2.2.2 hB2
    have hXr := HB.out.2.1.later hB02
    have r0 := hXr.cell 0 rfl
    have r2 := hXr.cell 2 rfl
    have r6 := hXr.cell 6 rfl
    have r9 := hXr.cell 9 rfl
    have hlt2 := hXr.lt
    have HF : Hid (Below w.heap.size w w2) := Below.on HB.out.1 hB02
    have e1 : (R.s.n == r.s.n) = true := by rw [HK.out.1]; simp
    have e2 : ((k.es.length : Int) == (h.es.length : Int)) = true := by rw [hkl]; simp
    have e3 : (R.recent == r.recent) = true := by rw [HK.out.2.1]; simp
    have e4 : (R.fin == r.fin) = true := by rw [HK.out.2.2.1]; simp
    clear hXr hB02 hB2 hB1 HK HB hkl hlt hlt1
    go_wp2_with fail
    refine (k2 _).mono ?_
    rintro e w3 ⟨rfl, hB3⟩
    go_wp2_with fail
    go_ret
    exact ⟨rfl, Below.on (below_more (below_more HF.out _) _) hB3⟩
end Go.Proofs.Ytkigcdmlkmcdcaa
