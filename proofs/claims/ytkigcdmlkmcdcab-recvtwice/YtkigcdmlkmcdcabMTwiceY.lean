/- The walk of RecvTwice: the same segment twice. -/
import Derived.Test.YtkigcdmlkmcdcabMTwiceN
namespace Go.Proofs.Ytkigcdmlkmcdcab
open Go.ChangeShapes Go.WideShapes Go.ChangeAt Go.RowKit
set_option linter.unusedVariables false
set_option linter.unusedSimpArgs false

set_option maxRecDepth 100000 in
set_option maxHeartbeats 16000000 in
theorem twice_y (r : Pl.Rv) (h : Hd) (s : Seg) (ks : Hs) (w : World) (H : RvAt w r h) (hok : r.Ok) (hs : SgAt w s ks) (hL : ¬ 500 < s.da.length) : Calls Try.prog 3 #[.agg #[.int .i64 r.s.n, .slice h.ua r.s.u.length h.uc, .slice h.la h.es.length h.lc, .int .i64 r.cap, .int .i64 r.shift, .int .i64 r.edge, .int .u32 r.recent, .bool r.stamps, .bool r.sacks, .int .i64 r.fin, .bool r.dn, .slice h.fa r.first.length h.fc, .int .u32 r.irs, .int .u32 r.own, .bool r.stamp], .agg #[.int .i64 s.sp, .int .i64 s.dp, .int .u32 s.sq, .int .u32 s.ak, .int .i64 s.fl, .int .i64 s.wn, .int .i64 s.ur, .int .i64 s.ms, .int .i64 s.sc, .bool s.so, .bool s.st, .int .u32 s.va, .int .u32 s.ec, .slice ks.ka s.sk.length ks.kc, .slice ks.da s.da.length ks.dc]] w fun e w' => e = .returned (.bool true) ∧ Below w.heap.size w w' := by
  obtain ⟨W0, hW0⟩ : ∃ W0, (w.alloc (.cells #[.int .i64 r.s.n, .slice h.ua r.s.u.length h.uc, .slice h.la h.es.length h.lc, .int .i64 r.cap, .int .i64 r.shift, .int .i64 r.edge, .int .u32 r.recent, .bool r.stamps, .bool r.sacks, .int .i64 r.fin, .bool r.dn, .slice h.fa r.first.length h.fc, .int .u32 r.irs, .int .u32 r.own, .bool r.stamp] 27)).alloc (.cells #[.int .i64 s.sp, .int .i64 s.dp, .int .u32 s.sq, .int .u32 s.ak, .int .i64 s.fl, .int .i64 s.wn, .int .i64 s.ur, .int .i64 s.ms, .int .i64 s.sc, .bool s.so, .bool s.st, .int .u32 s.va, .int .u32 s.ec, .slice ks.ka s.sk.length ks.kc, .slice ks.da s.da.length ks.dc] 30) = W0 := ⟨_, rfl⟩
  obtain ⟨hX, hG, hs0, b0⟩ := boxes2 w r h s ks hW0
  obtain ⟨c0, c1, c2, c3, c4, c5, c6, c7, c8, c9, c10, c11, c12, c13, c14⟩ := Box.c15 hX
  obtain ⟨d0, d1, d2, d3, d4, d5, d6, d7, d8, d9, d10, d11, d12, d13, d14⟩ := Box.c15 hG
  obtain ⟨A, hA⟩ : ∃ A, Pl.inR r (segOf s) = A := ⟨_, rfl⟩
  obtain ⟨bo, hbo⟩ : ∃ bo, Pl.inB r (segOf s) = bo := ⟨_, rfl⟩
  obtain ⟨B, hBB⟩ : ∃ B, Pl.inR A (segOf s) = B := ⟨_, rfl⟩
  have k1 := recvInput_any r h s ks W0 (H.later b0) hok (hs.later b0) A hA bo hbo
  have HAo : Hid (A.Ok ∧ r.s.n ≤ A.s.n ∧ r.edge ≤ A.edge) := by have := Pl.in_ok (g := segOf s) hok; rw [hA] at this; exact ⟨this.1, this.2.1, this.2.2.1⟩
  have HTw : Hid (B.s = A.s ∧ B.fin = A.fin ∧ B.dn = A.dn ∧ Pl.inB A (segOf s) = bo) := by
    have := Pl.twice (r := r) (g := segOf s) hok (by have e : (segOf s).ds.length = s.da.length := rfl; rw [e]; omega)
    rw [hA, hbo, hBB] at this
    exact this
  have HI2 : Hid (∀ W k, Below W0.heap.size W0 W → RvAt W A k → Calls Try.prog 4 #[.agg #[.int .i64 A.s.n, .slice k.ua A.s.u.length k.uc, .slice k.la k.es.length k.lc, .int .i64 A.cap, .int .i64 A.shift, .int .i64 A.edge, .int .u32 A.recent, .bool A.stamps, .bool A.sacks, .int .i64 A.fin, .bool A.dn, .slice k.fa A.first.length k.fc, .int .u32 A.irs, .int .u32 A.own, .bool A.stamp], .agg #[.int .i64 s.sp, .int .i64 s.dp, .int .u32 s.sq, .int .u32 s.ak, .int .i64 s.fl, .int .i64 s.wn, .int .i64 s.ur, .int .i64 s.ms, .int .i64 s.sc, .bool s.so, .bool s.st, .int .u32 s.va, .int .u32 s.ec, .slice ks.ka s.sk.length ks.kc, .slice ks.da s.da.length ks.dc]] W fun e w' => ∃ (k : Hd) (T : Seg) (kt : Hs), e = .returned (.tuple #[.agg #[.int .i64 B.s.n, .slice k.ua B.s.u.length k.uc, .slice k.la k.es.length k.lc, .int .i64 B.cap, .int .i64 B.shift, .int .i64 B.edge, .int .u32 B.recent, .bool B.stamps, .bool B.sacks, .int .i64 B.fin, .bool B.dn, .slice k.fa B.first.length k.fc, .int .u32 B.irs, .int .u32 B.own, .bool B.stamp], .agg #[.int .i64 T.sp, .int .i64 T.dp, .int .u32 T.sq, .int .u32 T.ak, .int .i64 T.fl, .int .i64 T.wn, .int .i64 T.ur, .int .i64 T.ms, .int .i64 T.sc, .bool T.so, .bool T.st, .int .u32 T.va, .int .u32 T.ec, .slice kt.ka T.sk.length kt.kc, .slice kt.da T.da.length kt.dc], .bool bo, .int .i64 0]) ∧ RvAt w' B k ∧ Below W.heap.size W w') := fun W k hW HA => recvInput_any A k s ks W HA HAo.out.1 ((hs.later b0).later hW) B hBB bo HTw.out.2.2.2
  have HB : Hid (Below w.heap.size w W0 ∧ Box W0 w.heap.size 27 [.int .i64 r.s.n, .slice h.ua r.s.u.length h.uc, .slice h.la h.es.length h.lc, .int .i64 r.cap, .int .i64 r.shift, .int .i64 r.edge, .int .u32 r.recent, .bool r.stamps, .bool r.sacks, .int .i64 r.fin, .bool r.dn, .slice h.fa r.first.length h.fc, .int .u32 r.irs, .int .u32 r.own, .bool r.stamp] ∧ Box W0 (w.heap.size + 1) 30 [.int .i64 s.sp, .int .i64 s.dp, .int .u32 s.sq, .int .u32 s.ak, .int .i64 s.fl, .int .i64 s.wn, .int .i64 s.ur, .int .i64 s.ms, .int .i64 s.sc, .bool s.so, .bool s.st, .int .u32 s.va, .int .u32 s.ec, .slice ks.ka s.sk.length ks.kc, .slice ks.da s.da.length ks.dc]) := ⟨b0, hX, hG⟩
  have k2 := heads_any
  clear hX hG hs0 b0 H hok hA hbo hs hBB
  go_enter Try.func3, Try.ntmps3
  go_wp2_with fail
  refine k1.mono ?_
  rintro e w1 ⟨k, T, kt, rfl, hA1, hB1⟩
  clear c0 c1 c2 c3 c4 c5 c6 c7 c8 c9 c10 c11 c12 c13 c14 d0 d1 d2 d3 d4 d5 d6 d7 d8 d9 d10 d11 d12 d13 d14 hW0 k1
  as_aux_lemma =>
    obtain ⟨X1, hX1⟩ : ∃ X1, (w1.alloc (.cells #[.int .i64 A.s.n, .slice k.ua A.s.u.length k.uc, .slice k.la k.es.length k.lc, .int .i64 A.cap, .int .i64 A.shift, .int .i64 A.edge, .int .u32 A.recent, .bool A.stamps, .bool A.sacks, .int .i64 A.fin, .bool A.dn, .slice k.fa A.first.length k.fc, .int .u32 A.irs, .int .u32 A.own, .bool A.stamp] 27)).alloc (.cells #[.int .i64 T.sp, .int .i64 T.dp, .int .u32 T.sq, .int .u32 T.ak, .int .i64 T.fl, .int .i64 T.wn, .int .i64 T.ur, .int .i64 T.ms, .int .i64 T.sc, .bool T.so, .bool T.st, .int .u32 T.va, .int .u32 T.ec, .slice kt.ka T.sk.length kt.kc, .slice kt.da T.da.length kt.dc] 30) = X1 := ⟨_, rfl⟩
    have bA : Box X1 w1.heap.size 27 [.int .i64 A.s.n, .slice k.ua A.s.u.length k.uc, .slice k.la k.es.length k.lc, .int .i64 A.cap, .int .i64 A.shift, .int .i64 A.edge, .int .u32 A.recent, .bool A.stamps, .bool A.sacks, .int .i64 A.fin, .bool A.dn, .slice k.fa A.first.length k.fc, .int .u32 A.irs, .int .u32 A.own, .bool A.stamp] := by rw [← hX1]; exact (Box.new w1 27 [.int .i64 A.s.n, .slice k.ua A.s.u.length k.uc, .slice k.la k.es.length k.lc, .int .i64 A.cap, .int .i64 A.shift, .int .i64 A.edge, .int .u32 A.recent, .bool A.stamps, .bool A.sacks, .int .i64 A.fin, .bool A.dn, .slice k.fa A.first.length k.fc, .int .u32 A.irs, .int .u32 A.own, .bool A.stamp]).alloc _
    have b1 : Below w1.heap.size w1 X1 := by rw [← hX1]; exact below_more (below_more (Below.refl _ _) _) _
    have HX1 : Hid (Box X1 w1.heap.size 27 [.int .i64 A.s.n, .slice k.ua A.s.u.length k.uc, .slice k.la k.es.length k.lc, .int .i64 A.cap, .int .i64 A.shift, .int .i64 A.edge, .int .u32 A.recent, .bool A.stamps, .bool A.sacks, .int .i64 A.fin, .bool A.dn, .slice k.fa A.first.length k.fc, .int .u32 A.irs, .int .u32 A.own, .bool A.stamp] ∧ Below W0.heap.size W0 X1 ∧ RvAt X1 A k) := ⟨bA, Below.on hB1 b1, hA1.later b1⟩
    obtain ⟨c0, c1, c2, c3, c4, c5, c6, c7, c8, c9, c10, c11, c12, c13, c14⟩ := Box.c15 bA
    obtain ⟨d0, d1, d2, d3, d4, d5, d6, d7, d8, d9, d10, d11, d12, d13, d14⟩ := Box.c15 (HB.out.2.2.later HX1.out.2.1)
    have hL' : ¬ (500 : Int) < (s.da.length : Int) := by omega
    clear bA b1 hA1 hB1
    go_upto_region 2 with fail
    try rw [hX1]
    clear hX1
    as_aux_lemma =>
      go_wp2_with fail
      refine (HI2.out X1 k HX1.out.2.1 HX1.out.2.2).mono ?_
      rintro e w2 ⟨q, T2, kt2, rfl, hA2, hB2⟩
      clear c0 c1 c2 c3 c4 c5 c6 c7 c8 c9 c10 c11 c12 c13 c14 d0 d1 d2 d3 d4 d5 d6 d7 d8 d9 d10 d11 d12 d13 d14 HI2 hL'
      go_upto_region 5 with fail
      obtain ⟨X2, hX2⟩ : ∃ X2, (w2.alloc (.cells #[.int .i64 B.s.n, .slice q.ua B.s.u.length q.uc, .slice q.la q.es.length q.lc, .int .i64 B.cap, .int .i64 B.shift, .int .i64 B.edge, .int .u32 B.recent, .bool B.stamps, .bool B.sacks, .int .i64 B.fin, .bool B.dn, .slice q.fa B.first.length q.fc, .int .u32 B.irs, .int .u32 B.own, .bool B.stamp] 27)).alloc (.cells #[.int .i64 T2.sp, .int .i64 T2.dp, .int .u32 T2.sq, .int .u32 T2.ak, .int .i64 T2.fl, .int .i64 T2.wn, .int .i64 T2.ur, .int .i64 T2.ms, .int .i64 T2.sc, .bool T2.so, .bool T2.st, .int .u32 T2.va, .int .u32 T2.ec, .slice kt2.ka T2.sk.length kt2.kc, .slice kt2.da T2.da.length kt2.dc] 30) = X2 := ⟨_, rfl⟩
      have bB0 : Box X2 w2.heap.size 27 [.int .i64 B.s.n, .slice q.ua B.s.u.length q.uc, .slice q.la q.es.length q.lc, .int .i64 B.cap, .int .i64 B.shift, .int .i64 B.edge, .int .u32 B.recent, .bool B.stamps, .bool B.sacks, .int .i64 B.fin, .bool B.dn, .slice q.fa B.first.length q.fc, .int .u32 B.irs, .int .u32 B.own, .bool B.stamp] := by rw [← hX2]; exact (Box.new w2 27 [.int .i64 B.s.n, .slice q.ua B.s.u.length q.uc, .slice q.la q.es.length q.lc, .int .i64 B.cap, .int .i64 B.shift, .int .i64 B.edge, .int .u32 B.recent, .bool B.stamps, .bool B.sacks, .int .i64 B.fin, .bool B.dn, .slice q.fa B.first.length q.fc, .int .u32 B.irs, .int .u32 B.own, .bool B.stamp]).alloc _
      have b2 : Below w2.heap.size w2 X2 := by rw [← hX2]; exact below_more (below_more (Below.refl _ _) _) _
      have b12 : Below X1.heap.size X1 X2 := Below.on hB2 b2
      have aB := hA2.later b2
      have aA := HX1.out.2.2.later b12
      try rw [hX2]
      clear hX2 hB2 hA2 b2
      obtain ⟨pa, hpa⟩ : ∃ pa, w1.heap.size = pa := ⟨_, rfl⟩
      obtain ⟨pb, hpb⟩ : ∃ pb, w2.heap.size = pb := ⟨_, rfl⟩
      rw [hpa] at HX1
      rw [hpb] at bB0
      have HF : Hid (Below w.heap.size w X2 ∧ Box X2 w.heap.size 27 [.int .i64 r.s.n, .slice h.ua r.s.u.length h.uc, .slice h.la h.es.length h.lc, .int .i64 r.cap, .int .i64 r.shift, .int .i64 r.edge, .int .u32 r.recent, .bool r.stamps, .bool r.sacks, .int .i64 r.fin, .bool r.dn, .slice h.fa r.first.length h.fc, .int .u32 r.irs, .int .u32 r.own, .bool r.stamp] ∧ Box X2 pa 27 [.int .i64 A.s.n, .slice k.ua A.s.u.length k.uc, .slice k.la k.es.length k.lc, .int .i64 A.cap, .int .i64 A.shift, .int .i64 A.edge, .int .u32 A.recent, .bool A.stamps, .bool A.sacks, .int .i64 A.fin, .bool A.dn, .slice k.fa A.first.length k.fc, .int .u32 A.irs, .int .u32 A.own, .bool A.stamp] ∧ Box X2 pb 27 [.int .i64 B.s.n, .slice q.ua B.s.u.length q.uc, .slice q.la q.es.length q.lc, .int .i64 B.cap, .int .i64 B.shift, .int .i64 B.edge, .int .u32 B.recent, .bool B.stamps, .bool B.sacks, .int .i64 B.fin, .bool B.dn, .slice q.fa B.first.length q.fc, .int .u32 B.irs, .int .u32 B.own, .bool B.stamp] ∧ RvAt X2 A k) := ⟨Below.on HB.out.1 (Below.on HX1.out.2.1 b12), HB.out.2.1.later (Below.on HX1.out.2.1 b12), HX1.out.1.later b12, bB0, aA⟩
      have hes : k.es.length = q.es.length := by
        have e1 := congrArg List.length aA.les
        have e2 := congrArg List.length aB.les
        rw [HTw.out.1] at e2
        simp only [List.length_map] at e1 e2
        omega
      have HSm : Hid (∀ W, Below X2.heap.size X2 W → Calls Try.prog 6 #[.slice k.ua A.s.u.length k.uc, .slice q.ua B.s.u.length q.uc] W fun e w' => e = .returned (.bool true) ∧ Below W.heap.size W w') := fun W hW => by
        refine (same_any k.ua q.ua k.uc q.uc A.s.u B.s.u W (aA.un.1.later hW) (aB.un.1.later hW)).mono ?_
        rintro e w' ⟨rfl, rfl⟩
        rw [HTw.out.1]
        simp only [decide_true]
        exact ⟨trivial, Below.refl _ _⟩
      have HCk : Hid (∀ W, Below X2.heap.size X2 W → Calls Try.prog 7 #[.agg #[.int .i64 A.s.n, .slice k.ua A.s.u.length k.uc, .slice k.la k.es.length k.lc, .int .i64 A.cap, .int .i64 A.shift, .int .i64 A.edge, .int .u32 A.recent, .bool A.stamps, .bool A.sacks, .int .i64 A.fin, .bool A.dn, .slice k.fa A.first.length k.fc, .int .u32 A.irs, .int .u32 A.own, .bool A.stamp]] W fun e w' => e = .returned (.int .i64 0) ∧ Below W.heap.size W w') := fun W hW => recvCheck_ok A k W (aA.later hW) HAo.out.1
      have g1 : (A.s.n == B.s.n) = true := by rw [HTw.out.1]; simp
      have g2 : (A.fin == B.fin) = true := by rw [HTw.out.2.1]; simp
      have g3 : (A.dn == B.dn) = true := by rw [HTw.out.2.2.1]; simp
      have g4 : ((k.es.length : Int) == (q.es.length : Int)) = true := by rw [hes]; simp
      have g5 : decide (r.s.n ≤ A.s.n) = true := by simp; exact HAo.out.2.1
      have g6 : decide (r.edge ≤ A.edge) = true := by simp; exact HAo.out.2.2
      obtain ⟨S, hS⟩ : ∃ S : World → Prop, S = fun W => W.cell? ⟨w.heap.size, 0, none⟩ = some (.int .i64 r.s.n) ∧ W.cell? ⟨w.heap.size, 5, none⟩ = some (.int .i64 r.edge) ∧ W.cell? ⟨pa, 0, none⟩ = some (.int .i64 A.s.n) ∧ W.cell? ⟨pa, 1, none⟩ = some (.slice k.ua A.s.u.length k.uc) ∧ W.cell? ⟨pa, 2, none⟩ = some (.slice k.la k.es.length k.lc) ∧ W.cell? ⟨pa, 3, none⟩ = some (.int .i64 A.cap) ∧ W.cell? ⟨pa, 4, none⟩ = some (.int .i64 A.shift) ∧ W.cell? ⟨pa, 5, none⟩ = some (.int .i64 A.edge) ∧ W.cell? ⟨pa, 6, none⟩ = some (.int .u32 A.recent) ∧ W.cell? ⟨pa, 7, none⟩ = some (.bool A.stamps) ∧ W.cell? ⟨pa, 8, none⟩ = some (.bool A.sacks) ∧ W.cell? ⟨pa, 9, none⟩ = some (.int .i64 A.fin) ∧ W.cell? ⟨pa, 10, none⟩ = some (.bool A.dn) ∧ W.cell? ⟨pa, 11, none⟩ = some (.slice k.fa A.first.length k.fc) ∧ W.cell? ⟨pa, 12, none⟩ = some (.int .u32 A.irs) ∧ W.cell? ⟨pa, 13, none⟩ = some (.int .u32 A.own) ∧ W.cell? ⟨pa, 14, none⟩ = some (.bool A.stamp) ∧ W.cell? ⟨pb, 0, none⟩ = some (.int .i64 B.s.n) ∧ W.cell? ⟨pb, 1, none⟩ = some (.slice q.ua B.s.u.length q.uc) ∧ W.cell? ⟨pb, 2, none⟩ = some (.slice q.la q.es.length q.lc) ∧ W.cell? ⟨pb, 9, none⟩ = some (.int .i64 B.fin) ∧ W.cell? ⟨pb, 10, none⟩ = some (.bool B.dn) := ⟨_, rfl⟩
      have HSK : Hid (∀ W, Below X2.heap.size X2 W → S W) := fun W hW => by rw [hS]; exact ⟨(HF.out.2.1.later hW).cell 0 rfl, (HF.out.2.1.later hW).cell 5 rfl, (HF.out.2.2.1.later hW).cell 0 rfl, (HF.out.2.2.1.later hW).cell 1 rfl, (HF.out.2.2.1.later hW).cell 2 rfl, (HF.out.2.2.1.later hW).cell 3 rfl, (HF.out.2.2.1.later hW).cell 4 rfl, (HF.out.2.2.1.later hW).cell 5 rfl, (HF.out.2.2.1.later hW).cell 6 rfl, (HF.out.2.2.1.later hW).cell 7 rfl, (HF.out.2.2.1.later hW).cell 8 rfl, (HF.out.2.2.1.later hW).cell 9 rfl, (HF.out.2.2.1.later hW).cell 10 rfl, (HF.out.2.2.1.later hW).cell 11 rfl, (HF.out.2.2.1.later hW).cell 12 rfl, (HF.out.2.2.1.later hW).cell 13 rfl, (HF.out.2.2.1.later hW).cell 14 rfl, (HF.out.2.2.2.1.later hW).cell 0 rfl, (HF.out.2.2.2.1.later hW).cell 1 rfl, (HF.out.2.2.2.1.later hW).cell 2 rfl, (HF.out.2.2.2.1.later hW).cell 9 rfl, (HF.out.2.2.2.1.later hW).cell 10 rfl⟩
      have HFB : Hid (Below w.heap.size w X2) := HF.out.1
      try rw [hpa]
      try rw [hpb]
      clear hpa hpb HF bB0 b12 aA aB hes HTw HAo HX1 HB
      simp only [List.append_eq, List.cons_append, List.nil_append]
      have hc := HSK.out X2 (Below.refl _ _)
      rw [hS] at hc
      obtain ⟨t0, t1, t2, t3, t4, t5, t6, t7, t8, t9, t10, t11, t12, t13, t14, t15, t16, t17, t18, t19, t20, t21⟩ := hc
      as_aux_lemma =>
        go_wp2_with fail
        refine (HSm.out X2 (Below.refl _ _)).mono ?_
        rintro e w3 ⟨rfl, hB3⟩
        clear t0 t1 t2 t3 t4 t5 t6 t7 t8 t9 t10 t11 t12 t13 t14 t15 t16 t17 t18 t19 t20 t21
        have hc := HSK.out w3 hB3
        rw [hS] at hc
        obtain ⟨t0, t1, t2, t3, t4, t5, t6, t7, t8, t9, t10, t11, t12, t13, t14, t15, t16, t17, t18, t19, t20, t21⟩ := hc
        as_aux_lemma =>
          go_wp2_with fail
          refine (HCk.out w3 hB3).mono ?_
          rintro e w4 ⟨rfl, hB4⟩
          clear t0 t1 t2 t3 t4 t5 t6 t7 t8 t9 t10 t11 t12 t13 t14 t15 t16 t17 t18 t19 t20 t21
          go_wp2_with fail
          refine (k2 _).mono ?_
          rintro e w5 ⟨rfl, hB5⟩
          go_wp2_with fail
          go_ret
          exact ⟨rfl, Below.on (Below.on (Below.on HFB.out hB3) hB4) hB5⟩
end Go.Proofs.Ytkigcdmlkmcdcab
