/- The walk of RecvReads. -/
import Derived.Test.YtkigcdmlkmcdcaaZ
import Derived.Test.YtkigcdmlkmcdcaaMRdsReg
import Derived.Test.YtkigcdmlkmcdcaaMRefRd
import Derived.Test.YtkigcdmlkmcdcaaMRefRdN
import Derived.Test.YtkigcdmlkmcdcaaMRefWin
import Derived.Test.YtkigcdmlkmcdcaaGR
namespace Go.Proofs.Ytkigcdmlkmcdcaa
open Go.ChangeShapes Go.WideShapes Go.ChangeAt Go.RowKit
set_option linter.unusedVariables false
set_option linter.unusedSimpArgs false

set_option maxRecDepth 100000 in
set_option maxHeartbeats 16000000 in
theorem reads_gen (r : Pl.Rv) (h : Hd) (n : Int) (w : World) (R1 R2 : Pl.Rv) (bs : List Int) (N : Nat) (T1 T2 : Seg) (q : Bool) (e1 wd : Int) (hbs : bs.length = N)
 (k1 : Hid (∀ W, Below w.heap.size w W → Calls Try.prog 12 #[.agg #[.int .i64 r.s.n, .slice h.ua r.s.u.length h.uc, .slice h.la h.es.length h.lc, .int .i64 r.cap, .int .i64 r.shift, .int .i64 r.edge, .int .u32 r.recent, .bool r.stamps, .bool r.sacks, .int .i64 r.fin, .bool r.dn, .slice h.fa r.first.length h.fc, .int .u32 r.irs, .int .u32 r.own, .bool r.stamp], .int .i64 n] W fun e w' => ∃ (k : Hd) (da : Option Addr) (dc : Nat) (ks : Hs), e = .returned (.tuple #[.agg #[.int .i64 R1.s.n, .slice k.ua R1.s.u.length k.uc, .slice k.la k.es.length k.lc, .int .i64 R1.cap, .int .i64 R1.shift, .int .i64 R1.edge, .int .u32 R1.recent, .bool R1.stamps, .bool R1.sacks, .int .i64 R1.fin, .bool R1.dn, .slice k.fa R1.first.length k.fc, .int .u32 R1.irs, .int .u32 R1.own, .bool R1.stamp], .slice da N dc, .agg #[.int .i64 T1.sp, .int .i64 T1.dp, .int .u32 T1.sq, .int .u32 T1.ak, .int .i64 T1.fl, .int .i64 T1.wn, .int .i64 T1.ur, .int .i64 T1.ms, .int .i64 T1.sc, .bool T1.so, .bool T1.st, .int .u32 T1.va, .int .u32 T1.ec, .slice ks.ka T1.sk.length ks.kc, .slice ks.da T1.da.length ks.dc], .bool q, .int .i64 e1]) ∧ (RvAt w' R1 k ∧ zak w' da bs ∧ za7 w' ks.ka T1.sk ∧ zak w' ks.da T1.da) ∧ Below W.heap.size W w')) (k2 : Hid (∀ W, Below w.heap.size w W → Calls Try.prog 19 #[.agg #[.int .i64 r.s.n, .slice h.ua r.s.u.length h.uc, .slice h.la h.es.length h.lc, .int .i64 r.cap, .int .i64 r.shift, .int .i64 r.edge, .int .u32 r.recent, .bool r.stamps, .bool r.sacks, .int .i64 r.fin, .bool r.dn, .slice h.fa r.first.length h.fc, .int .u32 r.irs, .int .u32 r.own, .bool r.stamp], .int .i64 n] W fun e w' => ∃ (k : Hd) (da : Option Addr) (dc : Nat) (ks : Hs), e = .returned (.tuple #[.agg #[.int .i64 R1.s.n, .slice k.ua R1.s.u.length k.uc, .slice k.la k.es.length k.lc, .int .i64 R1.cap, .int .i64 R1.shift, .int .i64 R1.edge, .int .u32 R1.recent, .bool R1.stamps, .bool R1.sacks, .int .i64 R1.fin, .bool R1.dn, .slice k.fa R1.first.length k.fc, .int .u32 R1.irs, .int .u32 R1.own, .bool R1.stamp], .slice da N dc, .agg #[.int .i64 T1.sp, .int .i64 T1.dp, .int .u32 T1.sq, .int .u32 T1.ak, .int .i64 T1.fl, .int .i64 T1.wn, .int .i64 T1.ur, .int .i64 T1.ms, .int .i64 T1.sc, .bool T1.so, .bool T1.st, .int .u32 T1.va, .int .u32 T1.ec, .slice ks.ka T1.sk.length ks.kc, .slice ks.da T1.da.length ks.dc], .bool q, .int .i64 e1]) ∧ (RvAt w' R1 k ∧ zak w' da bs ∧ za7 w' ks.ka T1.sk ∧ zak w' ks.da T1.da) ∧ Below W.heap.size W w')) (k3 : Hid (∀ W, Below w.heap.size w W → Calls Try.prog 13 #[.agg #[.int .i64 r.s.n, .slice h.ua r.s.u.length h.uc, .slice h.la h.es.length h.lc, .int .i64 r.cap, .int .i64 r.shift, .int .i64 r.edge, .int .u32 r.recent, .bool r.stamps, .bool r.sacks, .int .i64 r.fin, .bool r.dn, .slice h.fa r.first.length h.fc, .int .u32 r.irs, .int .u32 r.own, .bool r.stamp]] W fun e w' => ∃ (k : Hd) (ks : Hs), e = .returned (.tuple #[.agg #[.int .i64 R2.s.n, .slice k.ua R2.s.u.length k.uc, .slice k.la k.es.length k.lc, .int .i64 R2.cap, .int .i64 R2.shift, .int .i64 R2.edge, .int .u32 R2.recent, .bool R2.stamps, .bool R2.sacks, .int .i64 R2.fin, .bool R2.dn, .slice k.fa R2.first.length k.fc, .int .u32 R2.irs, .int .u32 R2.own, .bool R2.stamp], .agg #[.int .i64 T2.sp, .int .i64 T2.dp, .int .u32 T2.sq, .int .u32 T2.ak, .int .i64 T2.fl, .int .i64 T2.wn, .int .i64 T2.ur, .int .i64 T2.ms, .int .i64 T2.sc, .bool T2.so, .bool T2.st, .int .u32 T2.va, .int .u32 T2.ec, .slice ks.ka T2.sk.length ks.kc, .slice ks.da T2.da.length ks.dc]]) ∧ (RvAt w' R2 k ∧ za7 w' ks.ka T2.sk ∧ zak w' ks.da T2.da) ∧ Below W.heap.size W w')) (k4 : Hid (∀ W, Below w.heap.size w W → Calls Try.prog 20 #[.agg #[.int .i64 r.s.n, .slice h.ua r.s.u.length h.uc, .slice h.la h.es.length h.lc, .int .i64 r.cap, .int .i64 r.shift, .int .i64 r.edge, .int .u32 r.recent, .bool r.stamps, .bool r.sacks, .int .i64 r.fin, .bool r.dn, .slice h.fa r.first.length h.fc, .int .u32 r.irs, .int .u32 r.own, .bool r.stamp]] W fun e w' => ∃ (k : Hd) (ks : Hs), e = .returned (.tuple #[.agg #[.int .i64 R2.s.n, .slice k.ua R2.s.u.length k.uc, .slice k.la k.es.length k.lc, .int .i64 R2.cap, .int .i64 R2.shift, .int .i64 R2.edge, .int .u32 R2.recent, .bool R2.stamps, .bool R2.sacks, .int .i64 R2.fin, .bool R2.dn, .slice k.fa R2.first.length k.fc, .int .u32 R2.irs, .int .u32 R2.own, .bool R2.stamp], .agg #[.int .i64 T2.sp, .int .i64 T2.dp, .int .u32 T2.sq, .int .u32 T2.ak, .int .i64 T2.fl, .int .i64 T2.wn, .int .i64 T2.ur, .int .i64 T2.ms, .int .i64 T2.sc, .bool T2.so, .bool T2.st, .int .u32 T2.va, .int .u32 T2.ec, .slice ks.ka T2.sk.length ks.kc, .slice ks.da T2.da.length ks.dc]]) ∧ (RvAt w' R2 k ∧ za7 w' ks.ka T2.sk ∧ zak w' ks.da T2.da) ∧ Below W.heap.size W w')) (k5 : Hid (∀ W, Below w.heap.size w W → Calls Try.prog 10 #[.agg #[.int .i64 r.s.n, .slice h.ua r.s.u.length h.uc, .slice h.la h.es.length h.lc, .int .i64 r.cap, .int .i64 r.shift, .int .i64 r.edge, .int .u32 r.recent, .bool r.stamps, .bool r.sacks, .int .i64 r.fin, .bool r.dn, .slice h.fa r.first.length h.fc, .int .u32 r.irs, .int .u32 r.own, .bool r.stamp]] W fun e w' => e = .returned (.int .i64 wd) ∧ Below W.heap.size W w')) (k6 : Hid (∀ W, Below w.heap.size w W → Calls Try.prog 22 #[.agg #[.int .i64 r.s.n, .slice h.ua r.s.u.length h.uc, .slice h.la h.es.length h.lc, .int .i64 r.cap, .int .i64 r.shift, .int .i64 r.edge, .int .u32 r.recent, .bool r.stamps, .bool r.sacks, .int .i64 r.fin, .bool r.dn, .slice h.fa r.first.length h.fc, .int .u32 r.irs, .int .u32 r.own, .bool r.stamp]] W fun e w' => e = .returned (.int .i64 wd) ∧ Below W.heap.size W w')) :
 Calls Try.prog 6 #[.agg #[.int .i64 r.s.n, .slice h.ua r.s.u.length h.uc, .slice h.la h.es.length h.lc, .int .i64 r.cap, .int .i64 r.shift, .int .i64 r.edge, .int .u32 r.recent, .bool r.stamps, .bool r.sacks, .int .i64 r.fin, .bool r.dn, .slice h.fa r.first.length h.fc, .int .u32 r.irs, .int .u32 r.own, .bool r.stamp], .int .i64 n] w fun e w' => e = .returned (.bool true) ∧ Below w.heap.size w w' := by
 obtain ⟨W0, hW0⟩ : ∃ W0, w.alloc (.cells #[.int .i64 r.s.n, .slice h.ua r.s.u.length h.uc, .slice h.la h.es.length h.lc, .int .i64 r.cap, .int .i64 r.shift, .int .i64 r.edge, .int .u32 r.recent, .bool r.stamps, .bool r.sacks, .int .i64 r.fin, .bool r.dn, .slice h.fa r.first.length h.fc, .int .u32 r.irs, .int .u32 r.own, .bool r.stamp] 27) = W0 := ⟨_, rfl⟩
 have H0 : Hid (Box W0 w.heap.size 27 (rvL r h) ∧ Below w.heap.size w W0 ∧ bs.length = N) := by
  rw [← hW0]
  exact ⟨Box.new w 27 (rvL r h), zaa (Below.refl _ _) _, hbs⟩
 clear hbs
 obtain ⟨c0, c1, c2, c3, c4, c5, c6, c7, c8, c9, c10, c11, c12, c13, c14⟩ := Box.c15 H0.out.1
 go_enter Try.func6, Try.ntmps6
 go_wp2_with fail
 refine (k1.out W0 H0.out.2.1).mono ?_
 rintro e w1 ⟨ka, da, dc, sa, rfl, hA1, hB1⟩
 clear c0 c1 c2 c3 c4 c5 c6 c7 c8 c9 c10 c11 c12 c13 c14 k1 hW0
 go_upto_region 2 with fail
 obtain ⟨X1, hX1⟩ : ∃ X, (w1.alloc (.cells #[.int .i64 R1.s.n, .slice ka.ua R1.s.u.length ka.uc, .slice ka.la ka.es.length ka.lc, .int .i64 R1.cap, .int .i64 R1.shift, .int .i64 R1.edge, .int .u32 R1.recent, .bool R1.stamps, .bool R1.sacks, .int .i64 R1.fin, .bool R1.dn, .slice ka.fa R1.first.length ka.fc, .int .u32 R1.irs, .int .u32 R1.own, .bool R1.stamp] 27)).alloc (.cells #[.int .i64 T1.sp, .int .i64 T1.dp, .int .u32 T1.sq, .int .u32 T1.ak, .int .i64 T1.fl, .int .i64 T1.wn, .int .i64 T1.ur, .int .i64 T1.ms, .int .i64 T1.sc, .bool T1.so, .bool T1.st, .int .u32 T1.va, .int .u32 T1.ec, .slice sa.ka T1.sk.length sa.kc, .slice sa.da T1.da.length sa.dc] 34) = X := ⟨_, rfl⟩
 have b1 : Below w1.heap.size w1 X1 := by rw [← hX1]; exact zaa (zaa (Below.refl _ _) _) _
 have x1 : Box X1 w1.heap.size 27 (rvL R1 ka) := by rw [← hX1]; exact (Box.new w1 27 (rvL R1 ka)).alloc _
 have y1 : Box X1 (w1.heap.size + 1) 34 [.int .i64 T1.sp, .int .i64 T1.dp, .int .u32 T1.sq, .int .u32 T1.ak, .int .i64 T1.fl, .int .i64 T1.wn, .int .i64 T1.ur, .int .i64 T1.ms, .int .i64 T1.sc, .bool T1.so, .bool T1.st, .int .u32 T1.va, .int .u32 T1.ec, .slice sa.ka T1.sk.length sa.kc, .slice sa.da T1.da.length sa.dc] := by rw [← hX1]; have := Box.new (w1.alloc (.cells #[.int .i64 R1.s.n, .slice ka.ua R1.s.u.length ka.uc, .slice ka.la ka.es.length ka.lc, .int .i64 R1.cap, .int .i64 R1.shift, .int .i64 R1.edge, .int .u32 R1.recent, .bool R1.stamps, .bool R1.sacks, .int .i64 R1.fin, .bool R1.dn, .slice ka.fa R1.first.length ka.fc, .int .u32 R1.irs, .int .u32 R1.own, .bool R1.stamp] 27)) 34 (sgL T1 sa); rwa [World.size_alloc] at this
 have c1 : Below W0.heap.size W0 X1 := Below.on hB1 b1
 have H1 : Hid (Box X1 w.heap.size 27 (rvL r h) ∧ Below w.heap.size w X1 ∧ (Box X1 w1.heap.size 27 (rvL R1 ka) ∧ Box X1 (w1.heap.size + 1) 34 [.int .i64 T1.sp, .int .i64 T1.dp, .int .u32 T1.sq, .int .u32 T1.ak, .int .i64 T1.fl, .int .i64 T1.wn, .int .i64 T1.ur, .int .i64 T1.ms, .int .i64 T1.sc, .bool T1.so, .bool T1.st, .int .u32 T1.va, .int .u32 T1.ec, .slice sa.ka T1.sk.length sa.kc, .slice sa.da T1.da.length sa.dc] ∧ RvAt X1 R1 ka ∧ zak X1 da bs ∧ za7 X1 sa.ka T1.sk ∧ zak X1 sa.da T1.da) ∧ bs.length = N) := by
  exact ⟨H0.out.1.later c1, Below.on H0.out.2.1 c1, ⟨x1, y1, hA1.1.later b1, hA1.2.1.later b1, hA1.2.2.1.later b1, hA1.2.2.2.later b1⟩, H0.out.2.2⟩
 rw [hX1]
 clear hX1 b1 x1 y1 c1 hA1 hB1 H0
 as_aux_lemma =>
  obtain ⟨c0, c1, c2, c3, c4, c5, c6, c7, c8, c9, c10, c11, c12, c13, c14⟩ := Box.c15 H1.out.1
  go_wp2_with fail
  refine (k2.out X1 H1.out.2.1).mono ?_
  rintro e w2 ⟨kb, db, ec, sb, rfl, hA2, hB2⟩
  clear c0 c1 c2 c3 c4 c5 c6 c7 c8 c9 c10 c11 c12 c13 c14 k2
  go_upto_region 3 with fail
  obtain ⟨X2, hX2⟩ : ∃ X, (w2.alloc (.cells #[.int .i64 R1.s.n, .slice kb.ua R1.s.u.length kb.uc, .slice kb.la kb.es.length kb.lc, .int .i64 R1.cap, .int .i64 R1.shift, .int .i64 R1.edge, .int .u32 R1.recent, .bool R1.stamps, .bool R1.sacks, .int .i64 R1.fin, .bool R1.dn, .slice kb.fa R1.first.length kb.fc, .int .u32 R1.irs, .int .u32 R1.own, .bool R1.stamp] 27)).alloc (.cells #[.int .i64 T1.sp, .int .i64 T1.dp, .int .u32 T1.sq, .int .u32 T1.ak, .int .i64 T1.fl, .int .i64 T1.wn, .int .i64 T1.ur, .int .i64 T1.ms, .int .i64 T1.sc, .bool T1.so, .bool T1.st, .int .u32 T1.va, .int .u32 T1.ec, .slice sb.ka T1.sk.length sb.kc, .slice sb.da T1.da.length sb.dc] 34) = X := ⟨_, rfl⟩
  have b2 : Below w2.heap.size w2 X2 := by rw [← hX2]; exact zaa (zaa (Below.refl _ _) _) _
  have x2 : Box X2 w2.heap.size 27 (rvL R1 kb) := by rw [← hX2]; exact (Box.new w2 27 (rvL R1 kb)).alloc _
  have y2 : Box X2 (w2.heap.size + 1) 34 [.int .i64 T1.sp, .int .i64 T1.dp, .int .u32 T1.sq, .int .u32 T1.ak, .int .i64 T1.fl, .int .i64 T1.wn, .int .i64 T1.ur, .int .i64 T1.ms, .int .i64 T1.sc, .bool T1.so, .bool T1.st, .int .u32 T1.va, .int .u32 T1.ec, .slice sb.ka T1.sk.length sb.kc, .slice sb.da T1.da.length sb.dc] := by rw [← hX2]; have := Box.new (w2.alloc (.cells #[.int .i64 R1.s.n, .slice kb.ua R1.s.u.length kb.uc, .slice kb.la kb.es.length kb.lc, .int .i64 R1.cap, .int .i64 R1.shift, .int .i64 R1.edge, .int .u32 R1.recent, .bool R1.stamps, .bool R1.sacks, .int .i64 R1.fin, .bool R1.dn, .slice kb.fa R1.first.length kb.fc, .int .u32 R1.irs, .int .u32 R1.own, .bool R1.stamp] 27)) 34 (sgL T1 sb); rwa [World.size_alloc] at this
  have c2 : Below X1.heap.size X1 X2 := Below.on hB2 b2
  have H2 : Hid (Box X2 w.heap.size 27 (rvL r h) ∧ Below w.heap.size w X2 ∧ (Box X2 w1.heap.size 27 (rvL R1 ka) ∧ Box X2 (w1.heap.size + 1) 34 [.int .i64 T1.sp, .int .i64 T1.dp, .int .u32 T1.sq, .int .u32 T1.ak, .int .i64 T1.fl, .int .i64 T1.wn, .int .i64 T1.ur, .int .i64 T1.ms, .int .i64 T1.sc, .bool T1.so, .bool T1.st, .int .u32 T1.va, .int .u32 T1.ec, .slice sa.ka T1.sk.length sa.kc, .slice sa.da T1.da.length sa.dc] ∧ RvAt X2 R1 ka ∧ zak X2 da bs ∧ za7 X2 sa.ka T1.sk ∧ zak X2 sa.da T1.da) ∧ (Box X2 w2.heap.size 27 (rvL R1 kb) ∧ Box X2 (w2.heap.size + 1) 34 [.int .i64 T1.sp, .int .i64 T1.dp, .int .u32 T1.sq, .int .u32 T1.ak, .int .i64 T1.fl, .int .i64 T1.wn, .int .i64 T1.ur, .int .i64 T1.ms, .int .i64 T1.sc, .bool T1.so, .bool T1.st, .int .u32 T1.va, .int .u32 T1.ec, .slice sb.ka T1.sk.length sb.kc, .slice sb.da T1.da.length sb.dc] ∧ RvAt X2 R1 kb ∧ zak X2 db bs ∧ za7 X2 sb.ka T1.sk ∧ zak X2 sb.da T1.da) ∧ bs.length = N) := by
   exact ⟨H1.out.1.later c2, Below.on H1.out.2.1 c2, ⟨H1.out.2.2.1.1.later c2, H1.out.2.2.1.2.1.later c2, H1.out.2.2.1.2.2.1.later c2, H1.out.2.2.1.2.2.2.1.later c2, H1.out.2.2.1.2.2.2.2.1.later c2, H1.out.2.2.1.2.2.2.2.2.later c2⟩, ⟨x2, y2, hA2.1.later b2, hA2.2.1.later b2, hA2.2.2.1.later b2, hA2.2.2.2.later b2⟩, H1.out.2.2.2⟩
  rw [hX2]
  clear hX2 b2 x2 y2 c2 hA2 hB2 H1
  as_aux_lemma =>
   obtain ⟨c0, c1, c2, c3, c4, c5, c6, c7, c8, c9, c10, c11, c12, c13, c14⟩ := Box.c15 H2.out.1
   go_wp2_with fail
   refine (k3.out X2 H2.out.2.1).mono ?_
   rintro e w3 ⟨kc, sc, rfl, hA3, hB3⟩
   clear c0 c1 c2 c3 c4 c5 c6 c7 c8 c9 c10 c11 c12 c13 c14 k3
   go_upto_region 4 with fail
   obtain ⟨X3, hX3⟩ : ∃ X, (w3.alloc (.cells #[.int .i64 R2.s.n, .slice kc.ua R2.s.u.length kc.uc, .slice kc.la kc.es.length kc.lc, .int .i64 R2.cap, .int .i64 R2.shift, .int .i64 R2.edge, .int .u32 R2.recent, .bool R2.stamps, .bool R2.sacks, .int .i64 R2.fin, .bool R2.dn, .slice kc.fa R2.first.length kc.fc, .int .u32 R2.irs, .int .u32 R2.own, .bool R2.stamp] 27)).alloc (.cells #[.int .i64 T2.sp, .int .i64 T2.dp, .int .u32 T2.sq, .int .u32 T2.ak, .int .i64 T2.fl, .int .i64 T2.wn, .int .i64 T2.ur, .int .i64 T2.ms, .int .i64 T2.sc, .bool T2.so, .bool T2.st, .int .u32 T2.va, .int .u32 T2.ec, .slice sc.ka T2.sk.length sc.kc, .slice sc.da T2.da.length sc.dc] 34) = X := ⟨_, rfl⟩
   have b3 : Below w3.heap.size w3 X3 := by rw [← hX3]; exact zaa (zaa (Below.refl _ _) _) _
   have x3 : Box X3 w3.heap.size 27 (rvL R2 kc) := by rw [← hX3]; exact (Box.new w3 27 (rvL R2 kc)).alloc _
   have y3 : Box X3 (w3.heap.size + 1) 34 [.int .i64 T2.sp, .int .i64 T2.dp, .int .u32 T2.sq, .int .u32 T2.ak, .int .i64 T2.fl, .int .i64 T2.wn, .int .i64 T2.ur, .int .i64 T2.ms, .int .i64 T2.sc, .bool T2.so, .bool T2.st, .int .u32 T2.va, .int .u32 T2.ec, .slice sc.ka T2.sk.length sc.kc, .slice sc.da T2.da.length sc.dc] := by rw [← hX3]; have := Box.new (w3.alloc (.cells #[.int .i64 R2.s.n, .slice kc.ua R2.s.u.length kc.uc, .slice kc.la kc.es.length kc.lc, .int .i64 R2.cap, .int .i64 R2.shift, .int .i64 R2.edge, .int .u32 R2.recent, .bool R2.stamps, .bool R2.sacks, .int .i64 R2.fin, .bool R2.dn, .slice kc.fa R2.first.length kc.fc, .int .u32 R2.irs, .int .u32 R2.own, .bool R2.stamp] 27)) 34 (sgL T2 sc); rwa [World.size_alloc] at this
   have c3 : Below X2.heap.size X2 X3 := Below.on hB3 b3
   have H3 : Hid (Box X3 w.heap.size 27 (rvL r h) ∧ Below w.heap.size w X3 ∧ (Box X3 w1.heap.size 27 (rvL R1 ka) ∧ Box X3 (w1.heap.size + 1) 34 [.int .i64 T1.sp, .int .i64 T1.dp, .int .u32 T1.sq, .int .u32 T1.ak, .int .i64 T1.fl, .int .i64 T1.wn, .int .i64 T1.ur, .int .i64 T1.ms, .int .i64 T1.sc, .bool T1.so, .bool T1.st, .int .u32 T1.va, .int .u32 T1.ec, .slice sa.ka T1.sk.length sa.kc, .slice sa.da T1.da.length sa.dc] ∧ RvAt X3 R1 ka ∧ zak X3 da bs ∧ za7 X3 sa.ka T1.sk ∧ zak X3 sa.da T1.da) ∧ (Box X3 w2.heap.size 27 (rvL R1 kb) ∧ Box X3 (w2.heap.size + 1) 34 [.int .i64 T1.sp, .int .i64 T1.dp, .int .u32 T1.sq, .int .u32 T1.ak, .int .i64 T1.fl, .int .i64 T1.wn, .int .i64 T1.ur, .int .i64 T1.ms, .int .i64 T1.sc, .bool T1.so, .bool T1.st, .int .u32 T1.va, .int .u32 T1.ec, .slice sb.ka T1.sk.length sb.kc, .slice sb.da T1.da.length sb.dc] ∧ RvAt X3 R1 kb ∧ zak X3 db bs ∧ za7 X3 sb.ka T1.sk ∧ zak X3 sb.da T1.da) ∧ (Box X3 w3.heap.size 27 (rvL R2 kc) ∧ Box X3 (w3.heap.size + 1) 34 [.int .i64 T2.sp, .int .i64 T2.dp, .int .u32 T2.sq, .int .u32 T2.ak, .int .i64 T2.fl, .int .i64 T2.wn, .int .i64 T2.ur, .int .i64 T2.ms, .int .i64 T2.sc, .bool T2.so, .bool T2.st, .int .u32 T2.va, .int .u32 T2.ec, .slice sc.ka T2.sk.length sc.kc, .slice sc.da T2.da.length sc.dc] ∧ RvAt X3 R2 kc ∧ za7 X3 sc.ka T2.sk ∧ zak X3 sc.da T2.da) ∧ bs.length = N) := by
    exact ⟨H2.out.1.later c3, Below.on H2.out.2.1 c3, ⟨H2.out.2.2.1.1.later c3, H2.out.2.2.1.2.1.later c3, H2.out.2.2.1.2.2.1.later c3, H2.out.2.2.1.2.2.2.1.later c3, H2.out.2.2.1.2.2.2.2.1.later c3, H2.out.2.2.1.2.2.2.2.2.later c3⟩, ⟨H2.out.2.2.2.1.1.later c3, H2.out.2.2.2.1.2.1.later c3, H2.out.2.2.2.1.2.2.1.later c3, H2.out.2.2.2.1.2.2.2.1.later c3, H2.out.2.2.2.1.2.2.2.2.1.later c3, H2.out.2.2.2.1.2.2.2.2.2.later c3⟩, ⟨x3, y3, hA3.1.later b3, hA3.2.1.later b3, hA3.2.2.later b3⟩, H2.out.2.2.2.2⟩
   rw [hX3]
   clear hX3 b3 x3 y3 c3 hA3 hB3 H2
   as_aux_lemma =>
    obtain ⟨c0, c1, c2, c3, c4, c5, c6, c7, c8, c9, c10, c11, c12, c13, c14⟩ := Box.c15 H3.out.1
    go_wp2_with fail
    refine (k4.out X3 H3.out.2.1).mono ?_
    rintro e w4 ⟨kd, sd, rfl, hA4, hB4⟩
    clear c0 c1 c2 c3 c4 c5 c6 c7 c8 c9 c10 c11 c12 c13 c14 k4
    go_upto_region 5 with fail
    obtain ⟨X4, hX4⟩ : ∃ X, (w4.alloc (.cells #[.int .i64 R2.s.n, .slice kd.ua R2.s.u.length kd.uc, .slice kd.la kd.es.length kd.lc, .int .i64 R2.cap, .int .i64 R2.shift, .int .i64 R2.edge, .int .u32 R2.recent, .bool R2.stamps, .bool R2.sacks, .int .i64 R2.fin, .bool R2.dn, .slice kd.fa R2.first.length kd.fc, .int .u32 R2.irs, .int .u32 R2.own, .bool R2.stamp] 27)).alloc (.cells #[.int .i64 T2.sp, .int .i64 T2.dp, .int .u32 T2.sq, .int .u32 T2.ak, .int .i64 T2.fl, .int .i64 T2.wn, .int .i64 T2.ur, .int .i64 T2.ms, .int .i64 T2.sc, .bool T2.so, .bool T2.st, .int .u32 T2.va, .int .u32 T2.ec, .slice sd.ka T2.sk.length sd.kc, .slice sd.da T2.da.length sd.dc] 34) = X := ⟨_, rfl⟩
    have b4 : Below w4.heap.size w4 X4 := by rw [← hX4]; exact zaa (zaa (Below.refl _ _) _) _
    have x4 : Box X4 w4.heap.size 27 (rvL R2 kd) := by rw [← hX4]; exact (Box.new w4 27 (rvL R2 kd)).alloc _
    have y4 : Box X4 (w4.heap.size + 1) 34 [.int .i64 T2.sp, .int .i64 T2.dp, .int .u32 T2.sq, .int .u32 T2.ak, .int .i64 T2.fl, .int .i64 T2.wn, .int .i64 T2.ur, .int .i64 T2.ms, .int .i64 T2.sc, .bool T2.so, .bool T2.st, .int .u32 T2.va, .int .u32 T2.ec, .slice sd.ka T2.sk.length sd.kc, .slice sd.da T2.da.length sd.dc] := by rw [← hX4]; have := Box.new (w4.alloc (.cells #[.int .i64 R2.s.n, .slice kd.ua R2.s.u.length kd.uc, .slice kd.la kd.es.length kd.lc, .int .i64 R2.cap, .int .i64 R2.shift, .int .i64 R2.edge, .int .u32 R2.recent, .bool R2.stamps, .bool R2.sacks, .int .i64 R2.fin, .bool R2.dn, .slice kd.fa R2.first.length kd.fc, .int .u32 R2.irs, .int .u32 R2.own, .bool R2.stamp] 27)) 34 (sgL T2 sd); rwa [World.size_alloc] at this
    have c4 : Below X3.heap.size X3 X4 := Below.on hB4 b4
    have H4 : Hid (Box X4 w.heap.size 27 (rvL r h) ∧ Below w.heap.size w X4 ∧ (Box X4 w1.heap.size 27 (rvL R1 ka) ∧ Box X4 (w1.heap.size + 1) 34 [.int .i64 T1.sp, .int .i64 T1.dp, .int .u32 T1.sq, .int .u32 T1.ak, .int .i64 T1.fl, .int .i64 T1.wn, .int .i64 T1.ur, .int .i64 T1.ms, .int .i64 T1.sc, .bool T1.so, .bool T1.st, .int .u32 T1.va, .int .u32 T1.ec, .slice sa.ka T1.sk.length sa.kc, .slice sa.da T1.da.length sa.dc] ∧ RvAt X4 R1 ka ∧ zak X4 da bs ∧ za7 X4 sa.ka T1.sk ∧ zak X4 sa.da T1.da) ∧ (Box X4 w2.heap.size 27 (rvL R1 kb) ∧ Box X4 (w2.heap.size + 1) 34 [.int .i64 T1.sp, .int .i64 T1.dp, .int .u32 T1.sq, .int .u32 T1.ak, .int .i64 T1.fl, .int .i64 T1.wn, .int .i64 T1.ur, .int .i64 T1.ms, .int .i64 T1.sc, .bool T1.so, .bool T1.st, .int .u32 T1.va, .int .u32 T1.ec, .slice sb.ka T1.sk.length sb.kc, .slice sb.da T1.da.length sb.dc] ∧ RvAt X4 R1 kb ∧ zak X4 db bs ∧ za7 X4 sb.ka T1.sk ∧ zak X4 sb.da T1.da) ∧ (Box X4 w3.heap.size 27 (rvL R2 kc) ∧ Box X4 (w3.heap.size + 1) 34 [.int .i64 T2.sp, .int .i64 T2.dp, .int .u32 T2.sq, .int .u32 T2.ak, .int .i64 T2.fl, .int .i64 T2.wn, .int .i64 T2.ur, .int .i64 T2.ms, .int .i64 T2.sc, .bool T2.so, .bool T2.st, .int .u32 T2.va, .int .u32 T2.ec, .slice sc.ka T2.sk.length sc.kc, .slice sc.da T2.da.length sc.dc] ∧ RvAt X4 R2 kc ∧ za7 X4 sc.ka T2.sk ∧ zak X4 sc.da T2.da) ∧ (Box X4 w4.heap.size 27 (rvL R2 kd) ∧ Box X4 (w4.heap.size + 1) 34 [.int .i64 T2.sp, .int .i64 T2.dp, .int .u32 T2.sq, .int .u32 T2.ak, .int .i64 T2.fl, .int .i64 T2.wn, .int .i64 T2.ur, .int .i64 T2.ms, .int .i64 T2.sc, .bool T2.so, .bool T2.st, .int .u32 T2.va, .int .u32 T2.ec, .slice sd.ka T2.sk.length sd.kc, .slice sd.da T2.da.length sd.dc] ∧ RvAt X4 R2 kd ∧ za7 X4 sd.ka T2.sk ∧ zak X4 sd.da T2.da) ∧ bs.length = N) := by
     exact ⟨H3.out.1.later c4, Below.on H3.out.2.1 c4, ⟨H3.out.2.2.1.1.later c4, H3.out.2.2.1.2.1.later c4, H3.out.2.2.1.2.2.1.later c4, H3.out.2.2.1.2.2.2.1.later c4, H3.out.2.2.1.2.2.2.2.1.later c4, H3.out.2.2.1.2.2.2.2.2.later c4⟩, ⟨H3.out.2.2.2.1.1.later c4, H3.out.2.2.2.1.2.1.later c4, H3.out.2.2.2.1.2.2.1.later c4, H3.out.2.2.2.1.2.2.2.1.later c4, H3.out.2.2.2.1.2.2.2.2.1.later c4, H3.out.2.2.2.1.2.2.2.2.2.later c4⟩, ⟨H3.out.2.2.2.2.1.1.later c4, H3.out.2.2.2.2.1.2.1.later c4, H3.out.2.2.2.2.1.2.2.1.later c4, H3.out.2.2.2.2.1.2.2.2.1.later c4, H3.out.2.2.2.2.1.2.2.2.2.later c4⟩, ⟨x4, y4, hA4.1.later b4, hA4.2.1.later b4, hA4.2.2.later b4⟩, H3.out.2.2.2.2.2⟩
    rw [hX4]
    clear hX4 b4 x4 y4 c4 hA4 hB4 H3
    try simp only [List.append_eq, List.cons_append, List.nil_append]
    have HB4 : Hid (Below w.heap.size w X4) := H4.out.2.1
    refine rds5_reg rfl r R1 R2 h ka kb kc kd T1 T2 sa sb sc sd w.heap.size w1.heap.size w2.heap.size (w1.heap.size + 1) (w2.heap.size + 1) w3.heap.size w4.heap.size (w3.heap.size + 1) (w4.heap.size + 1) da db N dc ec q e1 wd rfl rfl rfl rfl rfl rfl rfl rfl rfl rfl rfl rfl rfl rfl rfl (X4 := X4)
     (fun W hW => zfw R1 ka kb W (H4.out.2.2.1.2.2.1.later hW) (H4.out.2.2.2.1.2.2.1.later hW))
     (fun W hW => ?_)
     (fun W hW => zft T1 sa sb W ⟨H4.out.2.2.1.2.2.2.2.1.later hW, H4.out.2.2.1.2.2.2.2.2.later hW⟩ ⟨H4.out.2.2.2.1.2.2.2.2.1.later hW, H4.out.2.2.2.1.2.2.2.2.2.later hW⟩)
     (fun W hW => zfw R2 kc kd W (H4.out.2.2.2.2.1.2.2.1.later hW) (H4.out.2.2.2.2.2.1.2.2.1.later hW))
     (fun W hW => zft T2 sc sd W ⟨H4.out.2.2.2.2.1.2.2.2.1.later hW, H4.out.2.2.2.2.1.2.2.2.2.later hW⟩ ⟨H4.out.2.2.2.2.2.1.2.2.2.1.later hW, H4.out.2.2.2.2.2.1.2.2.2.2.later hW⟩)
     (fun W hW => k5.out W (Below.on HB4.out hW)) (fun W hW => k6.out W (Below.on HB4.out hW)) (fun W hW => heads_any W)
     ⟨H4.out.1.of_heap rfl, H4.out.2.2.1.1.of_heap rfl, H4.out.2.2.2.1.1.of_heap rfl, H4.out.2.2.1.2.1.of_heap rfl, H4.out.2.2.2.1.2.1.of_heap rfl, H4.out.2.2.2.2.1.1.of_heap rfl, H4.out.2.2.2.2.2.1.1.of_heap rfl, H4.out.2.2.2.2.1.2.1.of_heap rfl, H4.out.2.2.2.2.2.1.2.1.of_heap rfl, Below.drew (Below.refl _ _)⟩ ?_
    · have hs := zep da db dc ec bs bs W (H4.out.2.2.1.2.2.2.1.later hW) (H4.out.2.2.2.1.2.2.2.1.later hW)
      rw [H4.out.2.2.2.2.2.2] at hs
      refine hs.mono ?_
      rintro e w' ⟨rfl, rfl⟩
      simp only [decide_true]
      exact ⟨trivial, Below.refl _ _⟩
    intro T W9 hT hS9
    have HB9 : Hid (Below w.heap.size w W9) := Below.on HB4.out hS9.2.2.2.2.2.2.2.2.2
    clear hS9 H4 HB4 k5 k6
    simp only [Act.put, qA, qZ, qS]
    rw [hT]
    clear hT
    go_wp2_with fail
    go_ret
    exact ⟨rfl, HB9.out⟩

def zrR : Pl.Rv := ⟨⟨0, [], []⟩, 0, 0, 0, 0, false, false, 0, false, [], 0, 0, false⟩
theorem zr_at (W : World) : RvAt W zrR noH where
 un := SlAt.nil _
 late := PcsAt.nil' _
 les := rfl
 fst := SpAt.nil' _
 n := by unfold I64 zrR; simp
 cap := by unfold I64 zrR; simp
 shift := by unfold I64 zrR; simp
 edge := by unfold I64 zrR; simp
 recent := by unfold U32 zrR; simp
 fin := by unfold I64 zrR; simp
 irs := by unfold U32 zrR; simp
 own := by unfold U32 zrR; simp
theorem zs_at (W : World) : za7 W (none : Option Addr) zeroS.sk ∧ zak W (none : Option Addr) zeroS.da := ⟨by simp [zeroS, za7], zak.nil _ _⟩
theorem RvAt.cutOk {w : World} {r : Pl.Rv} {h : Hd} (H : RvAt w r h) (hok : r.Ok) (n : Int) {X : World} {B : Nat} {k : Hd} (hO : RvOwn X B (Pl.readR r n) k) : RvAt X (Pl.readR r n) k := by
 have h1 := (Pl.read_ok (n := n) hok).1
 refine hO.atOk h1 ?_ ?_ ?_
 · have : (Pl.readR r n).recent = r.recent := by unfold Pl.readR Pl.tellR Pl.cutR; split <;> rfl
   rw [this]; exact H.recent
 · have : (Pl.readR r n).irs = r.irs := by unfold Pl.readR Pl.tellR Pl.cutR; split <;> rfl
   rw [this]; exact H.irs
 · have : (Pl.readR r n).own = r.own := by unfold Pl.readR Pl.tellR Pl.cutR; split <;> rfl
   rw [this]; exact H.own
theorem SgOwn.blks {w : World} {B : Nat} {s : Seg} {k : Hs} (h : SgOwn w B s k) : za7 w k.ka s.sk ∧ zak w k.da s.da := ⟨h.row.blks (by have := h.four; omega), by rw [h.da.1]; exact zak.nil _ _⟩
theorem reads_walk (r : Pl.Rv) (h : Hd) (n : Int) (w : World) (H : RvAt w r h) (hn : I64 n) : Calls Try.prog 6 #[.agg #[.int .i64 r.s.n, .slice h.ua r.s.u.length h.uc, .slice h.la h.es.length h.lc, .int .i64 r.cap, .int .i64 r.shift, .int .i64 r.edge, .int .u32 r.recent, .bool r.stamps, .bool r.sacks, .int .i64 r.fin, .bool r.dn, .slice h.fa r.first.length h.fc, .int .u32 r.irs, .int .u32 r.own, .bool r.stamp], .int .i64 n] w fun e w' => e = .returned (.bool true) ∧ Below w.heap.size w w' := by
 by_cases hok : r.Ok
 · refine reads_gen r h n w (Pl.readR r n) (Pl.tellR r) (r.s.u.take (Pl.rdN r n)) (Pl.rdN r n) (readS r n) (tellS r r.first) (Pl.rdB r n) 0 r.window (by rw [List.length_take]; have := Pl.cut_len r n; omega) (fun W hW => ?_) (fun W hW => ?_) (fun W hW => ?_) (fun W hW => ?_) (fun W hW => zd3 r h W (H.later hW) hok) (fun W hW => refWin_ok r h W (H.later hW) hok)
   · refine (zfe r h n W (H.later hW) hok).mono ?_
     rintro e w' ⟨k, da, dc, ks, he, hO, hs, hg, hb⟩
     exact ⟨k, da, dc, ks, he, ⟨H.cutOk hok n hO, hs.1, hg.blks⟩, hb⟩
   · refine (refRead_ok r h n W (H.later hW) hok hn).mono ?_
     rintro e w' ⟨k, da, dc, ks, he, hO, hs, hg, hb⟩
     exact ⟨k, da, dc, ks, he, ⟨hO, hs.1, hg.blks⟩, hb⟩
   · refine (recvTell_ok r h W (H.later hW) hok).mono ?_
     rintro e w' ⟨k, ks, he, hO, hg, hb⟩
     exact ⟨k, ks, he, ⟨hO.at (H.tell hok), hg.blks⟩, hb⟩
   · refine (refTellT_ok r h W (H.later hW) hok).mono ?_
     rintro e w' ⟨k, ks, he, hO, hg, hb⟩
     exact ⟨k, ks, he, ⟨hO.at (H.tell hok), hg.blks⟩, hb⟩
 · refine reads_gen r h n w zrR zrR [] 0 zeroS zeroS false 230 0 rfl (fun W hW => ?_) (fun W hW => ?_) (fun W hW => ?_) (fun W hW => ?_) (fun W hW => zgk r h W (H.later hW) hok) (fun W hW => refWin_no r h W (H.later hW) hok)
   · refine (recvRead_no r h n W (H.later hW) hok).mono ?_
     rintro e w' ⟨he, hb⟩
     exact ⟨noH, none, 0, ⟨none, 0, none, 0⟩, he, ⟨zr_at _, zak.nil _ _, zs_at _⟩, hb⟩
   · refine (refRead_no r h n W (H.later hW) hok).mono ?_
     rintro e w' ⟨he, hb⟩
     exact ⟨noH, none, 0, ⟨none, 0, none, 0⟩, he, ⟨zr_at _, zak.nil _ _, zs_at _⟩, hb⟩
   · refine (recvTell_no r h W (H.later hW) hok).mono ?_
     rintro e w' ⟨he, hb⟩
     exact ⟨noH, ⟨none, 0, none, 0⟩, he, ⟨zr_at _, zs_at _⟩, hb⟩
   · refine (refTellT_no r h W (H.later hW) hok).mono ?_
     rintro e w' ⟨he, hb⟩
     exact ⟨noH, ⟨none, 0, none, 0⟩, he, ⟨zr_at _, zs_at _⟩, hb⟩
end Go.Proofs.Ytkigcdmlkmcdcaa

