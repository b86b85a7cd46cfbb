/- The walk of RecvInputs. -/
import Derived.Test.YtkigcdmlkmcdcaaQZ
import Derived.Test.YtkigcdmlkmcdcaaQMInsReg
import Derived.Test.YtkigcdmlkmcdcaaQMRefIn1
import Derived.Test.YtkigcdmlkmcdcaaQMRefInN
import Derived.Test.YtkigcdmlkmcdcaaQGS
namespace Go.Proofs.Ytkigcdmlkmcdcaa
open Go.ChangeShapes Go.WideShapes Go.ChangeAt Go.RowKit
set_option linter.unusedVariables false
set_option linter.unusedSimpArgs false
set_option maxRecDepth 100000 in
set_option maxHeartbeats 16000000 in
theorem inputs_out (r:Pl.Rv) (h:Hd) (s:Seg) (ks:Hs) (w:World) (h5:500<s.da.length) :
 Calls Try.prog 5 #[.agg #[.int .i64 r.s.n,.slice h.ua r.s.u.length h.uc,.slice h.la h.es.length h.lc,.int .i64 r.cap,.int .i64 r.shift,.int .i64 r.edge,.int .u32 r.recent,.bool r.stamps,.bool r.sacks,.int .i64 r.fin,.bool r.dn,.slice h.fa r.first.length h.fc,.int .u32 r.irs,.int .u32 r.own,.bool r.stamp],.agg #[.int .i64 s.sp,.int .i64 s.dp,.int .u32 s.sq,.int .u32 s.ak,.int .i64 s.fl,.int .i64 s.wn,.int .i64 s.ur,.int .i64 s.ms,.int .i64 s.sc,.bool s.so,.bool s.st,.int .u32 s.va,.int .u32 s.ec,.slice ks.ka s.sk.length ks.kc,.slice ks.da s.da.length ks.dc]] w fun e w'=>e=.returned (.bool true)∧Below w.heap.size w w':=by
 have kh:=heads_any
 obtain ⟨W0,hW0⟩:∃ W0,(w.alloc (.cells #[.int .i64 r.s.n,.slice h.ua r.s.u.length h.uc,.slice h.la h.es.length h.lc,.int .i64 r.cap,.int .i64 r.shift,.int .i64 r.edge,.int .u32 r.recent,.bool r.stamps,.bool r.sacks,.int .i64 r.fin,.bool r.dn,.slice h.fa r.first.length h.fc,.int .u32 r.irs,.int .u32 r.own,.bool r.stamp] 27)).alloc (.cells #[.int .i64 s.sp,.int .i64 s.dp,.int .u32 s.sq,.int .u32 s.ak,.int .i64 s.fl,.int .i64 s.wn,.int .i64 s.ur,.int .i64 s.ms,.int .i64 s.sc,.bool s.so,.bool s.st,.int .u32 s.va,.int .u32 s.ec,.slice ks.ka s.sk.length ks.kc,.slice ks.da s.da.length ks.dc] 34)=W0:=⟨_,rfl⟩
 have H0:Hid (Box W0 w.heap.size 27 (rvL r h)∧Box W0 (w.heap.size+1) 34 [.int .i64 s.sp,.int .i64 s.dp,.int .u32 s.sq,.int .u32 s.ak,.int .i64 s.fl,.int .i64 s.wn,.int .i64 s.ur,.int .i64 s.ms,.int .i64 s.sc,.bool s.so,.bool s.st,.int .u32 s.va,.int .u32 s.ec,.slice ks.ka s.sk.length ks.kc,.slice ks.da s.da.length ks.dc]∧Below w.heap.size w W0):=by
  rw [← hW0]
  refine ⟨(Box.new w 27 (rvL r h)).alloc _,?_,zaa (zaa (Below.refl _ _) _) _⟩
  have:=Box.new (w.alloc (.cells #[.int .i64 r.s.n,.slice h.ua r.s.u.length h.uc,.slice h.la h.es.length h.lc,.int .i64 r.cap,.int .i64 r.shift,.int .i64 r.edge,.int .u32 r.recent,.bool r.stamps,.bool r.sacks,.int .i64 r.fin,.bool r.dn,.slice h.fa r.first.length h.fc,.int .u32 r.irs,.int .u32 r.own,.bool r.stamp] 27)) 34 (sgL s ks)
  rwa [World.size_alloc] at this
 have d14:=H0.out.2.1.cell 14 rfl
 have h6:(500:Int)<(s.da.length:Int):=by omega
 go_enter Try.func5,Try.ntmps5
 go_wp2_with fail
 refine (kh _).mono ?_
 rintro e w1 ⟨rfl,hB⟩
 go_wp2_with fail
 go_ret
 exact ⟨rfl,Below.on H0.out.2.2 hB⟩
set_option maxRecDepth 100000 in
set_option maxHeartbeats 16000000 in
theorem zeq (r:Pl.Rv) (h:Hd) (s:Seg) (ks:Hs) (w:World) (R1:Pl.Rv) (T1:Seg) (q:Bool) (e1 ec:Int) (h5:s.da.length≤500)
 (k1:Hid (∀ W,Below w.heap.size w W→Calls Try.prog 14 #[.agg #[.int .i64 r.s.n,.slice h.ua r.s.u.length h.uc,.slice h.la h.es.length h.lc,.int .i64 r.cap,.int .i64 r.shift,.int .i64 r.edge,.int .u32 r.recent,.bool r.stamps,.bool r.sacks,.int .i64 r.fin,.bool r.dn,.slice h.fa r.first.length h.fc,.int .u32 r.irs,.int .u32 r.own,.bool r.stamp],.agg #[.int .i64 s.sp,.int .i64 s.dp,.int .u32 s.sq,.int .u32 s.ak,.int .i64 s.fl,.int .i64 s.wn,.int .i64 s.ur,.int .i64 s.ms,.int .i64 s.sc,.bool s.so,.bool s.st,.int .u32 s.va,.int .u32 s.ec,.slice ks.ka s.sk.length ks.kc,.slice ks.da s.da.length ks.dc]] W fun e w'=>∃ (k:Hd) (kt:Hs),e=.returned (.tuple #[.agg #[.int .i64 R1.s.n,.slice k.ua R1.s.u.length k.uc,.slice k.la k.es.length k.lc,.int .i64 R1.cap,.int .i64 R1.shift,.int .i64 R1.edge,.int .u32 R1.recent,.bool R1.stamps,.bool R1.sacks,.int .i64 R1.fin,.bool R1.dn,.slice k.fa R1.first.length k.fc,.int .u32 R1.irs,.int .u32 R1.own,.bool R1.stamp],.agg #[.int .i64 T1.sp,.int .i64 T1.dp,.int .u32 T1.sq,.int .u32 T1.ak,.int .i64 T1.fl,.int .i64 T1.wn,.int .i64 T1.ur,.int .i64 T1.ms,.int .i64 T1.sc,.bool T1.so,.bool T1.st,.int .u32 T1.va,.int .u32 T1.ec,.slice kt.ka T1.sk.length kt.kc,.slice kt.da T1.da.length kt.dc],.bool q,.int .i64 e1])∧(RvAt w' R1 k∧zbc w' kt.ka T1.sk∧zak w' kt.da T1.da)∧Below W.heap.size W w')) (k2:Hid (∀ W,Below w.heap.size w W→Calls Try.prog 15 #[.agg #[.int .i64 r.s.n,.slice h.ua r.s.u.length h.uc,.slice h.la h.es.length h.lc,.int .i64 r.cap,.int .i64 r.shift,.int .i64 r.edge,.int .u32 r.recent,.bool r.stamps,.bool r.sacks,.int .i64 r.fin,.bool r.dn,.slice h.fa r.first.length h.fc,.int .u32 r.irs,.int .u32 r.own,.bool r.stamp],.agg #[.int .i64 s.sp,.int .i64 s.dp,.int .u32 s.sq,.int .u32 s.ak,.int .i64 s.fl,.int .i64 s.wn,.int .i64 s.ur,.int .i64 s.ms,.int .i64 s.sc,.bool s.so,.bool s.st,.int .u32 s.va,.int .u32 s.ec,.slice ks.ka s.sk.length ks.kc,.slice ks.da s.da.length ks.dc]] W fun e w'=>∃ (k:Hd) (kt:Hs),e=.returned (.tuple #[.agg #[.int .i64 R1.s.n,.slice k.ua R1.s.u.length k.uc,.slice k.la k.es.length k.lc,.int .i64 R1.cap,.int .i64 R1.shift,.int .i64 R1.edge,.int .u32 R1.recent,.bool R1.stamps,.bool R1.sacks,.int .i64 R1.fin,.bool R1.dn,.slice k.fa R1.first.length k.fc,.int .u32 R1.irs,.int .u32 R1.own,.bool R1.stamp],.agg #[.int .i64 T1.sp,.int .i64 T1.dp,.int .u32 T1.sq,.int .u32 T1.ak,.int .i64 T1.fl,.int .i64 T1.wn,.int .i64 T1.ur,.int .i64 T1.ms,.int .i64 T1.sc,.bool T1.so,.bool T1.st,.int .u32 T1.va,.int .u32 T1.ec,.slice kt.ka T1.sk.length kt.kc,.slice kt.da T1.da.length kt.dc],.bool q,.int .i64 e1])∧(RvAt w' R1 k∧zbc w' kt.ka T1.sk∧zak w' kt.da T1.da)∧Below W.heap.size W w')) (k3:Hid (∀ W,Below w.heap.size w W→Calls Try.prog 9 #[.agg #[.int .i64 r.s.n,.slice h.ua r.s.u.length h.uc,.slice h.la h.es.length h.lc,.int .i64 r.cap,.int .i64 r.shift,.int .i64 r.edge,.int .u32 r.recent,.bool r.stamps,.bool r.sacks,.int .i64 r.fin,.bool r.dn,.slice h.fa r.first.length h.fc,.int .u32 r.irs,.int .u32 r.own,.bool r.stamp]] W fun e w'=>e=.returned (.int .i64 ec)∧Below W.heap.size W w')) (k4:Hid (∀ W,Below w.heap.size w W→Calls Try.prog 18 #[.agg #[.int .i64 r.s.n,.slice h.ua r.s.u.length h.uc,.slice h.la h.es.length h.lc,.int .i64 r.cap,.int .i64 r.shift,.int .i64 r.edge,.int .u32 r.recent,.bool r.stamps,.bool r.sacks,.int .i64 r.fin,.bool r.dn,.slice h.fa r.first.length h.fc,.int .u32 r.irs,.int .u32 r.own,.bool r.stamp]] W fun e w'=>e=.returned (.int .i64 ec)∧Below W.heap.size W w')) :
 Calls Try.prog 5 #[.agg #[.int .i64 r.s.n,.slice h.ua r.s.u.length h.uc,.slice h.la h.es.length h.lc,.int .i64 r.cap,.int .i64 r.shift,.int .i64 r.edge,.int .u32 r.recent,.bool r.stamps,.bool r.sacks,.int .i64 r.fin,.bool r.dn,.slice h.fa r.first.length h.fc,.int .u32 r.irs,.int .u32 r.own,.bool r.stamp],.agg #[.int .i64 s.sp,.int .i64 s.dp,.int .u32 s.sq,.int .u32 s.ak,.int .i64 s.fl,.int .i64 s.wn,.int .i64 s.ur,.int .i64 s.ms,.int .i64 s.sc,.bool s.so,.bool s.st,.int .u32 s.va,.int .u32 s.ec,.slice ks.ka s.sk.length ks.kc,.slice ks.da s.da.length ks.dc]] w fun e w'=>e=.returned (.bool true)∧Below w.heap.size w w':=by
 obtain ⟨W0,hW0⟩:∃ W0,(w.alloc (.cells #[.int .i64 r.s.n,.slice h.ua r.s.u.length h.uc,.slice h.la h.es.length h.lc,.int .i64 r.cap,.int .i64 r.shift,.int .i64 r.edge,.int .u32 r.recent,.bool r.stamps,.bool r.sacks,.int .i64 r.fin,.bool r.dn,.slice h.fa r.first.length h.fc,.int .u32 r.irs,.int .u32 r.own,.bool r.stamp] 27)).alloc (.cells #[.int .i64 s.sp,.int .i64 s.dp,.int .u32 s.sq,.int .u32 s.ak,.int .i64 s.fl,.int .i64 s.wn,.int .i64 s.ur,.int .i64 s.ms,.int .i64 s.sc,.bool s.so,.bool s.st,.int .u32 s.va,.int .u32 s.ec,.slice ks.ka s.sk.length ks.kc,.slice ks.da s.da.length ks.dc] 34)=W0:=⟨_,rfl⟩
 have H0:Hid (Box W0 w.heap.size 27 (rvL r h)∧Box W0 (w.heap.size+1) 34 [.int .i64 s.sp,.int .i64 s.dp,.int .u32 s.sq,.int .u32 s.ak,.int .i64 s.fl,.int .i64 s.wn,.int .i64 s.ur,.int .i64 s.ms,.int .i64 s.sc,.bool s.so,.bool s.st,.int .u32 s.va,.int .u32 s.ec,.slice ks.ka s.sk.length ks.kc,.slice ks.da s.da.length ks.dc]∧Below w.heap.size w W0):=by
  rw [← hW0]
  refine ⟨(Box.new w 27 (rvL r h)).alloc _,?_,zaa (zaa (Below.refl _ _) _) _⟩
  have:=Box.new (w.alloc (.cells #[.int .i64 r.s.n,.slice h.ua r.s.u.length h.uc,.slice h.la h.es.length h.lc,.int .i64 r.cap,.int .i64 r.shift,.int .i64 r.edge,.int .u32 r.recent,.bool r.stamps,.bool r.sacks,.int .i64 r.fin,.bool r.dn,.slice h.fa r.first.length h.fc,.int .u32 r.irs,.int .u32 r.own,.bool r.stamp] 27)) 34 (sgL s ks)
  rwa [World.size_alloc] at this
 have h6:¬(500:Int)<(s.da.length:Int):=by omega
 have h7:¬500<s.da.length:=by omega
 obtain ⟨c0,c1,c2,c3,c4,c5,c6,c7,c8,c9,c10,c11,c12,c13,c14⟩:=Box.c15 H0.out.1
 obtain ⟨d0,d1,d2,d3,d4,d5,d6,d7,d8,d9,d10,d11,d12,d13,d14⟩:=Box.c15 H0.out.2.1
 clear h5
 go_enter Try.func5,Try.ntmps5
 go_wp2_with fail
 refine (k1.out W0 H0.out.2.2).mono ?_
 rintro e w1 ⟨ka,sa,rfl,hA1,hB1⟩
 clear c0 c1 c2 c3 c4 c5 c6 c7 c8 c9 c10 c11 c12 c13 c14 d0 d1 d2 d3 d4 d5 d6 d7 d8 d9 d10 d11 d12 d13 d14 k1 hW0 h6 h7
 go_upto_region 4 with fail
 obtain ⟨X1,hX1⟩:∃ X,(w1.alloc (.cells #[.int .i64 R1.s.n,.slice ka.ua R1.s.u.length ka.uc,.slice ka.la ka.es.length ka.lc,.int .i64 R1.cap,.int .i64 R1.shift,.int .i64 R1.edge,.int .u32 R1.recent,.bool R1.stamps,.bool R1.sacks,.int .i64 R1.fin,.bool R1.dn,.slice ka.fa R1.first.length ka.fc,.int .u32 R1.irs,.int .u32 R1.own,.bool R1.stamp] 27)).alloc (.cells #[.int .i64 T1.sp,.int .i64 T1.dp,.int .u32 T1.sq,.int .u32 T1.ak,.int .i64 T1.fl,.int .i64 T1.wn,.int .i64 T1.ur,.int .i64 T1.ms,.int .i64 T1.sc,.bool T1.so,.bool T1.st,.int .u32 T1.va,.int .u32 T1.ec,.slice sa.ka T1.sk.length sa.kc,.slice sa.da T1.da.length sa.dc] 34)=X:=⟨_,rfl⟩
 have b1:Below w1.heap.size w1 X1:=by rw [← hX1];exact zaa (zaa (Below.refl _ _) _) _
 have x1:Box X1 w1.heap.size 27 (rvL R1 ka):=by rw [← hX1];exact (Box.new w1 27 (rvL R1 ka)).alloc _
 have y1:Box X1 (w1.heap.size+1) 34 [.int .i64 T1.sp,.int .i64 T1.dp,.int .u32 T1.sq,.int .u32 T1.ak,.int .i64 T1.fl,.int .i64 T1.wn,.int .i64 T1.ur,.int .i64 T1.ms,.int .i64 T1.sc,.bool T1.so,.bool T1.st,.int .u32 T1.va,.int .u32 T1.ec,.slice sa.ka T1.sk.length sa.kc,.slice sa.da T1.da.length sa.dc]:=by rw [← hX1];have:=Box.new (w1.alloc (.cells #[.int .i64 R1.s.n,.slice ka.ua R1.s.u.length ka.uc,.slice ka.la ka.es.length ka.lc,.int .i64 R1.cap,.int .i64 R1.shift,.int .i64 R1.edge,.int .u32 R1.recent,.bool R1.stamps,.bool R1.sacks,.int .i64 R1.fin,.bool R1.dn,.slice ka.fa R1.first.length ka.fc,.int .u32 R1.irs,.int .u32 R1.own,.bool R1.stamp] 27)) 34 (sgL T1 sa);rwa [World.size_alloc] at this
 have c1:Below W0.heap.size W0 X1:=Below.on hB1 b1
 have H1:Hid (Box X1 w.heap.size 27 (rvL r h)∧Box X1 (w.heap.size+1) 34 [.int .i64 s.sp,.int .i64 s.dp,.int .u32 s.sq,.int .u32 s.ak,.int .i64 s.fl,.int .i64 s.wn,.int .i64 s.ur,.int .i64 s.ms,.int .i64 s.sc,.bool s.so,.bool s.st,.int .u32 s.va,.int .u32 s.ec,.slice ks.ka s.sk.length ks.kc,.slice ks.da s.da.length ks.dc]∧Below w.heap.size w X1∧(Box X1 w1.heap.size 27 (rvL R1 ka)∧Box X1 (w1.heap.size+1) 34 [.int .i64 T1.sp,.int .i64 T1.dp,.int .u32 T1.sq,.int .u32 T1.ak,.int .i64 T1.fl,.int .i64 T1.wn,.int .i64 T1.ur,.int .i64 T1.ms,.int .i64 T1.sc,.bool T1.so,.bool T1.st,.int .u32 T1.va,.int .u32 T1.ec,.slice sa.ka T1.sk.length sa.kc,.slice sa.da T1.da.length sa.dc]∧RvAt X1 R1 ka∧zbc X1 sa.ka T1.sk∧zak X1 sa.da T1.da)):=by
  exact ⟨H0.out.1.later c1,H0.out.2.1.later c1,Below.on H0.out.2.2 c1,⟨x1,y1,hA1.1.later b1,hA1.2.1.later b1,hA1.2.2.later b1⟩⟩
 rw [hX1]
 clear hX1 b1 x1 y1 c1 hA1 hB1 H0
 as_aux_lemma =>
  obtain ⟨c0,c1,c2,c3,c4,c5,c6,c7,c8,c9,c10,c11,c12,c13,c14⟩:=Box.c15 H1.out.1
  obtain ⟨d0,d1,d2,d3,d4,d5,d6,d7,d8,d9,d10,d11,d12,d13,d14⟩:=Box.c15 H1.out.2.1
  go_wp2_with fail
  refine (k2.out X1 H1.out.2.2.1).mono ?_
  rintro e w2 ⟨kb,sb,rfl,hA2,hB2⟩
  clear c0 c1 c2 c3 c4 c5 c6 c7 c8 c9 c10 c11 c12 c13 c14 d0 d1 d2 d3 d4 d5 d6 d7 d8 d9 d10 d11 d12 d13 d14 k2
  go_upto_region 5 with fail
  obtain ⟨X2,hX2⟩:∃ X,(w2.alloc (.cells #[.int .i64 R1.s.n,.slice kb.ua R1.s.u.length kb.uc,.slice kb.la kb.es.length kb.lc,.int .i64 R1.cap,.int .i64 R1.shift,.int .i64 R1.edge,.int .u32 R1.recent,.bool R1.stamps,.bool R1.sacks,.int .i64 R1.fin,.bool R1.dn,.slice kb.fa R1.first.length kb.fc,.int .u32 R1.irs,.int .u32 R1.own,.bool R1.stamp] 27)).alloc (.cells #[.int .i64 T1.sp,.int .i64 T1.dp,.int .u32 T1.sq,.int .u32 T1.ak,.int .i64 T1.fl,.int .i64 T1.wn,.int .i64 T1.ur,.int .i64 T1.ms,.int .i64 T1.sc,.bool T1.so,.bool T1.st,.int .u32 T1.va,.int .u32 T1.ec,.slice sb.ka T1.sk.length sb.kc,.slice sb.da T1.da.length sb.dc] 34)=X:=⟨_,rfl⟩
  have b2:Below w2.heap.size w2 X2:=by rw [← hX2];exact zaa (zaa (Below.refl _ _) _) _
  have x2:Box X2 w2.heap.size 27 (rvL R1 kb):=by rw [← hX2];exact (Box.new w2 27 (rvL R1 kb)).alloc _
  have y2:Box X2 (w2.heap.size+1) 34 [.int .i64 T1.sp,.int .i64 T1.dp,.int .u32 T1.sq,.int .u32 T1.ak,.int .i64 T1.fl,.int .i64 T1.wn,.int .i64 T1.ur,.int .i64 T1.ms,.int .i64 T1.sc,.bool T1.so,.bool T1.st,.int .u32 T1.va,.int .u32 T1.ec,.slice sb.ka T1.sk.length sb.kc,.slice sb.da T1.da.length sb.dc]:=by rw [← hX2];have:=Box.new (w2.alloc (.cells #[.int .i64 R1.s.n,.slice kb.ua R1.s.u.length kb.uc,.slice kb.la kb.es.length kb.lc,.int .i64 R1.cap,.int .i64 R1.shift,.int .i64 R1.edge,.int .u32 R1.recent,.bool R1.stamps,.bool R1.sacks,.int .i64 R1.fin,.bool R1.dn,.slice kb.fa R1.first.length kb.fc,.int .u32 R1.irs,.int .u32 R1.own,.bool R1.stamp] 27)) 34 (sgL T1 sb);rwa [World.size_alloc] at this
  have c2:Below X1.heap.size X1 X2:=Below.on hB2 b2
  have H2:Hid (Box X2 w.heap.size 27 (rvL r h)∧Box X2 (w.heap.size+1) 34 [.int .i64 s.sp,.int .i64 s.dp,.int .u32 s.sq,.int .u32 s.ak,.int .i64 s.fl,.int .i64 s.wn,.int .i64 s.ur,.int .i64 s.ms,.int .i64 s.sc,.bool s.so,.bool s.st,.int .u32 s.va,.int .u32 s.ec,.slice ks.ka s.sk.length ks.kc,.slice ks.da s.da.length ks.dc]∧Below w.heap.size w X2∧(Box X2 w1.heap.size 27 (rvL R1 ka)∧Box X2 (w1.heap.size+1) 34 [.int .i64 T1.sp,.int .i64 T1.dp,.int .u32 T1.sq,.int .u32 T1.ak,.int .i64 T1.fl,.int .i64 T1.wn,.int .i64 T1.ur,.int .i64 T1.ms,.int .i64 T1.sc,.bool T1.so,.bool T1.st,.int .u32 T1.va,.int .u32 T1.ec,.slice sa.ka T1.sk.length sa.kc,.slice sa.da T1.da.length sa.dc]∧RvAt X2 R1 ka∧zbc X2 sa.ka T1.sk∧zak X2 sa.da T1.da)∧(Box X2 w2.heap.size 27 (rvL R1 kb)∧Box X2 (w2.heap.size+1) 34 [.int .i64 T1.sp,.int .i64 T1.dp,.int .u32 T1.sq,.int .u32 T1.ak,.int .i64 T1.fl,.int .i64 T1.wn,.int .i64 T1.ur,.int .i64 T1.ms,.int .i64 T1.sc,.bool T1.so,.bool T1.st,.int .u32 T1.va,.int .u32 T1.ec,.slice sb.ka T1.sk.length sb.kc,.slice sb.da T1.da.length sb.dc]∧RvAt X2 R1 kb∧zbc X2 sb.ka T1.sk∧zak X2 sb.da T1.da)):=by
   exact ⟨H1.out.1.later c2,H1.out.2.1.later c2,Below.on H1.out.2.2.1 c2,⟨H1.out.2.2.2.1.later c2,H1.out.2.2.2.2.1.later c2,H1.out.2.2.2.2.2.1.later c2,H1.out.2.2.2.2.2.2.1.later c2,H1.out.2.2.2.2.2.2.2.later c2⟩,⟨x2,y2,hA2.1.later b2,hA2.2.1.later b2,hA2.2.2.later b2⟩⟩
  rw [hX2]
  clear hX2 b2 x2 y2 c2 hA2 hB2 H1
  try simp only [List.append_eq,List.cons_append,List.nil_append]
  have HB4:Hid (Below w.heap.size w X2):=H2.out.2.2.1
  refine ins5_reg rfl r R1 h ka kb T1 sa sb w.heap.size w1.heap.size w2.heap.size (w1.heap.size+1) (w2.heap.size+1) q e1 ec rfl rfl rfl rfl rfl rfl rfl rfl rfl (X4:=X2)
   (fun W hW=>sameRv_any R1 ka kb W (H2.out.2.2.2.1.2.2.1.later hW) (H2.out.2.2.2.2.2.2.1.later hW))
   (fun W hW=>told_alike T1 sa sb W ⟨H2.out.2.2.2.1.2.2.2.1.later hW,H2.out.2.2.2.1.2.2.2.2.later hW⟩ ⟨H2.out.2.2.2.2.2.2.2.1.later hW,H2.out.2.2.2.2.2.2.2.2.later hW⟩)
   (fun W hW=>k3.out W (Below.on HB4.out hW)) (fun W hW=>k4.out W (Below.on HB4.out hW)) (fun W hW=>heads_any W)
   ⟨H2.out.1.of_heap rfl,H2.out.2.2.2.1.1.of_heap rfl,H2.out.2.2.2.2.1.of_heap rfl,H2.out.2.2.2.1.2.1.of_heap rfl,H2.out.2.2.2.2.2.1.of_heap rfl,Below.drew (Below.refl _ _)⟩ ?_
  intro T W9 hT hS9
  have HB9:Hid (Below w.heap.size w W9):=Below.on HB4.out hS9.2.2.2.2.2
  clear hS9 H2 HB4 k3 k4
  simp only [Act.put,qA,qZ,qS]
  rw [hT]
  clear hT
  go_wp2_with fail
  go_ret
  exact ⟨rfl,HB9.out⟩
def zrI:Pl.Rv:=⟨⟨0,[],[]⟩,0,0,0,0,false,false,0,false,[],0,0,false⟩
theorem zi_at (W:World):RvAt W zrI noH where
 un:=SlAt.nil _
 late:=PcsAt.nil' _
 les:=rfl
 fst:=SpAt.nil' _
 n:=by unfold I64 zrI;simp
 cap:=by unfold I64 zrI;simp
 shift:=by unfold I64 zrI;simp
 edge:=by unfold I64 zrI;simp
 recent:=by unfold U32 zrI;simp
 fin:=by unfold I64 zrI;simp
 irs:=by unfold U32 zrI;simp
 own:=by unfold U32 zrI;simp
theorem zt_at (W:World):zbc W (none:Option Addr) zeroS.sk∧zak W (none:Option Addr) zeroS.da:=⟨by simp [zeroS,zbc],zak.nil _ _⟩
theorem SgOwn.blksI {w:World} {B:Nat} {s:Seg} {k:Hs} (h:SgOwn w B s k):zbc w k.ka s.sk∧zak w k.da s.da:=⟨h.row.blks (by have:=h.four;omega),by rw [h.da.1];exact zak.nil _ _⟩
theorem inputs_walk (r:Pl.Rv) (h:Hd) (s:Seg) (ks:Hs) (w:World) (H:RvAt w r h) (hs:SgAt w s ks):Calls Try.prog 5 #[.agg #[.int .i64 r.s.n,.slice h.ua r.s.u.length h.uc,.slice h.la h.es.length h.lc,.int .i64 r.cap,.int .i64 r.shift,.int .i64 r.edge,.int .u32 r.recent,.bool r.stamps,.bool r.sacks,.int .i64 r.fin,.bool r.dn,.slice h.fa r.first.length h.fc,.int .u32 r.irs,.int .u32 r.own,.bool r.stamp],.agg #[.int .i64 s.sp,.int .i64 s.dp,.int .u32 s.sq,.int .u32 s.ak,.int .i64 s.fl,.int .i64 s.wn,.int .i64 s.ur,.int .i64 s.ms,.int .i64 s.sc,.bool s.so,.bool s.st,.int .u32 s.va,.int .u32 s.ec,.slice ks.ka s.sk.length ks.kc,.slice ks.da s.da.length ks.dc]] w fun e w'=>e=.returned (.bool true)∧Below w.heap.size w w':=by
 by_cases h5:500<s.da.length
 · exact inputs_out r h s ks w h5
 have h5':s.da.length≤500:=by omega
 by_cases hok:r.Ok
 · by_cases c:r.stamps=true∧s.st=false
   · refine zeq r h s ks w r zeroS false 0 0 h5' (fun W hW=>?_) (fun W hW=>?_) (fun W hW=>zbk r h W (H.later hW) hok) (fun W hW=>zeb r h W (H.later hW) hok)
     · refine (zf3 r h s ks W (H.later hW) hok c).mono ?_
       rintro e w' ⟨k,he,hO,hb⟩
       exact ⟨k,⟨none,0,none,0⟩,he,⟨hO.at H,zt_at _⟩,hb⟩
     · refine (zgw r h s ks W (H.later hW) hok c).mono ?_
       rintro e w' ⟨k,he,hO,hb⟩
       exact ⟨k,⟨none,0,none,0⟩,he,⟨hO,zt_at _⟩,hb⟩
   · have hst:r.stamps=false∨s.st=true:=by
      cases h7:r.stamps
      · exact .inl rfl
      · cases h8:s.st
        · exact absurd ⟨h7,h8⟩ c
        · exact .inr rfl
     obtain ⟨ra,hra⟩:∃ ra,(if Pl.oldB r (segOf s)=true then r else Pl.intoR r (segOf s))=ra:=⟨_,rfl⟩
     obtain ⟨bl,hbl⟩:∃ bl,(if Pl.oldB r (segOf s)=true then r.first else blkL r (segOf s))=bl:=⟨_,rfl⟩
     have e1:Pl.inR r (segOf s)=Pl.tellR ra:=by
      rw [← hra]
      unfold Pl.inR
      rw [if_neg (show ¬(r.stamps=true∧(segOf s).stamped=false) from c)]
      split<;>rfl
     have hro:=(Pl.in_ok (g:=segOf s) hok).1
     have hlo:=in_low (r:=r) (g:=segOf s)
     rw [e1] at hro hlo
     have h1:U32 (Pl.tellR ra).recent:=by
      rcases hlo.2.2 with e|e
      · rw [e];exact H.recent
      · rw [e];exact hs.va
     have h2:U32 (Pl.tellR ra).irs:=by rw [hlo.1];exact H.irs
     have h3:U32 (Pl.tellR ra).own:=by rw [hlo.2.1];exact H.own
     refine zeq r h s ks w (Pl.tellR ra) (tellS ra bl) true 0 0 h5' (fun W hW=>?_) (fun W hW=>?_) (fun W hW=>zbk r h W (H.later hW) hok) (fun W hW=>zeb r h W (H.later hW) hok)
     · refine (zc7 r h s ks W (H.later hW) hok (hs.later hW) hst ra hra bl hbl).mono ?_
       rintro e w' ⟨k,kt,he,hO,hG,hb⟩
       exact ⟨k,kt,he,⟨hO.atOk hro h1 h2 h3,hG.blksI⟩,hb⟩
     · refine (refInput_in r h s ks W (H.later hW) hok (hs.later hW) hst ra hra bl hbl).mono ?_
       rintro e w' ⟨k,kt,he,hO,hG,hb⟩
       exact ⟨k,kt,he,⟨hO.atOk hro h1 h2 h3,hG.blksI⟩,hb⟩
 · refine zeq r h s ks w zrI zeroS false 230 230 h5' (fun W hW=>?_) (fun W hW=>?_) (fun W hW=>ze0 r h W (H.later hW) hok) (fun W hW=>refChk_no r h W (H.later hW) hok)
   · refine (recvInput_no r h s ks W (H.later hW) hok).mono ?_
     rintro e w' ⟨he,hb⟩
     exact ⟨noH,⟨none,0,none,0⟩,he,⟨zi_at _,zt_at _⟩,hb⟩
   · refine (refInput_no r h s ks W (H.later hW) hok).mono ?_
     rintro e w' ⟨he,hb⟩
     exact ⟨noH,⟨none,0,none,0⟩,he,⟨zi_at _,zt_at _⟩,hb⟩
end Go.Proofs.Ytkigcdmlkmcdcaa
