/- GN: InputN InputB ReadN. -/
import Derived.Test.YtkigcdmlkmcdcaaQZ
import Derived.Test.YtkigcdmlkmcdcaaQGL
import Derived.Test.YtkigcdmlkmcdcaaQGM
/- The contract of Input, of what may not be. -/
namespace Go.Proofs.Ytkigcdmlkmcdcaa
open Go.ChangeShapes Go.WideShapes Go.ChangeAt Go.RowKit
set_option linter.unusedVariables false
set_option linter.unusedSimpArgs false
theorem zgm (w:World) (cs ds:List Value) {W0:World} (hW0:(((w.alloc (.cells cs.toArray 27)).alloc (.cells ds.toArray 34)).alloc (.cells zR.toArray 27)).alloc (.cells zS.toArray 34)=W0) :
 Box W0 w.heap.size 27 cs∧Box W0 (w.heap.size+1) 34 ds∧Box W0 (w.heap.size+2) 27 zR∧Box W0 (w.heap.size+3) 34 zS∧W0.heap.size=w.heap.size+4∧Below w.heap.size w W0:=by
 subst hW0
 refine ⟨Box.alloc (Box.alloc (Box.alloc (Box.new w 27 cs) _) _) _,?_,?_,?_,by simp,zaa (zaa (zaa (zaa (Below.refl _ _) _) _) _) _⟩
 · have:=((Box.new (w.alloc (.cells cs.toArray 27)) 34 ds).alloc (.cells zR.toArray 27)).alloc (.cells zS.toArray 34);rwa [World.size_alloc] at this
 · have:=(Box.new ((w.alloc (.cells cs.toArray 27)).alloc (.cells ds.toArray 34)) 27 zR).alloc (.cells zS.toArray 34);rwa [World.size_alloc,World.size_alloc] at this
 · have:=Box.new (((w.alloc (.cells cs.toArray 27)).alloc (.cells ds.toArray 34)).alloc (.cells zR.toArray 27)) 34 zS;rwa [World.size_alloc,World.size_alloc,World.size_alloc] at this
set_option maxRecDepth 100000 in
set_option maxHeartbeats 4000000 in
theorem recvInput_no (r:Pl.Rv) (h:Hd) (s:Seg) (k:Hs) (w:World) (H:RvAt w r h) (hok:¬r.Ok) :
 Calls Try.prog 14 #[.agg #[.int .i64 r.s.n,.slice h.ua r.s.u.length h.uc,.slice h.la h.es.length h.lc,.int .i64 r.cap,.int .i64 r.shift,.int .i64 r.edge,.int .u32 r.recent,.bool r.stamps,.bool r.sacks,.int .i64 r.fin,.bool r.dn,.slice h.fa r.first.length h.fc,.int .u32 r.irs,.int .u32 r.own,.bool r.stamp],.agg #[.int .i64 s.sp,.int .i64 s.dp,.int .u32 s.sq,.int .u32 s.ak,.int .i64 s.fl,.int .i64 s.wn,.int .i64 s.ur,.int .i64 s.ms,.int .i64 s.sc,.bool s.so,.bool s.st,.int .u32 s.va,.int .u32 s.ec,.slice k.ka s.sk.length k.kc,.slice k.da s.da.length k.dc]] w fun e w'=>e=.returned (.tuple #[.agg #[.int .i64 0,.slice none 0 0,.slice none 0 0,.int .i64 0,.int .i64 0,.int .i64 0,.int .u32 0,.bool false,.bool false,.int .i64 0,.bool false,.slice none 0 0,.int .u32 0,.int .u32 0,.bool false],.agg #[.int .i64 0,.int .i64 0,.int .u32 0,.int .u32 0,.int .i64 0,.int .i64 0,.int .i64 0,.int .i64 0,.int .i64 0,.bool false,.bool false,.int .u32 0,.int .u32 0,.slice none 0 0,.slice none 0 0],.bool false,.int .i64 230])∧Below w.heap.size w w':=by
 obtain ⟨W0,hW0⟩:∃ W0,(((w.alloc (.cells #[.int .i64 r.s.n,.slice h.ua r.s.u.length h.uc,.slice h.la h.es.length h.lc,.int .i64 r.cap,.int .i64 r.shift,.int .i64 r.edge,.int .u32 r.recent,.bool r.stamps,.bool r.sacks,.int .i64 r.fin,.bool r.dn,.slice h.fa r.first.length h.fc,.int .u32 r.irs,.int .u32 r.own,.bool r.stamp] 27)).alloc (.cells #[.int .i64 s.sp,.int .i64 s.dp,.int .u32 s.sq,.int .u32 s.ak,.int .i64 s.fl,.int .i64 s.wn,.int .i64 s.ur,.int .i64 s.ms,.int .i64 s.sc,.bool s.so,.bool s.st,.int .u32 s.va,.int .u32 s.ec,.slice k.ka s.sk.length k.kc,.slice k.da s.da.length k.dc] 34)).alloc (.cells zR.toArray 27)).alloc (.cells zS.toArray 34)=W0:=⟨_,rfl⟩
 obtain ⟨hX,hG,hZ,hZS,hs0,b0⟩:=zgm w (rvL r h) (sgL s k) hW0
 have HX:Hid (Box W0 (w.heap.size+2) 27 zR∧Box W0 (w.heap.size+3) 34 zS∧Below w.heap.size w W0):=⟨hZ,hZS,b0⟩
 obtain ⟨c0,c1,c2,c3,c4,c5,c6,c7,c8,c9,c10,c11,c12,c13,c14⟩:=Box.c15 (show Box W0 w.heap.size 27 (rvL r h) from hX)
 have cC:=ze0 r h W0 (H.later b0) hok
 clear hX hG hZ hZS hs0 b0 H hok
 go_enter Try.func14,Try.ntmps14
 go_wp2_with fail
 refine cC.mono ?_
 rintro e w1 ⟨rfl,hB⟩
 clear c0 c1 c2 c3 c4 c5 c6 c7 c8 c9 c10 c11 c12 c13 c14 cC hW0
 have hz1:=HX.out.1.later hB
 have hz2:=HX.out.2.1.later hB
 have b1:Box (setAll (setAll w1 (w.heap.size+2) 0 zR) (w.heap.size+3) 0 zS) (w.heap.size+2) 27 zR:=(hz1.put zR rfl).putAside _ _ _ (by omega)
 have b2:Box (setAll (setAll w1 (w.heap.size+2) 0 zR) (w.heap.size+3) 0 zS) (w.heap.size+3) 34 zS:=(hz2.putAside _ _ _ (by omega)).put _ rfl
 have hb3:Below w.heap.size w (setAll (setAll w1 (w.heap.size+2) 0 zR) (w.heap.size+3) 0 zS):=zaf (by omega) (zaf (by omega) (Below.on HX.out.2.2 hB))
 have HF:Hid (_∧_∧_):=⟨b1,b2,hb3⟩
 obtain ⟨c0,c1,c2,c3,c4,c5,c6,c7,c8,c9,c10,c11,c12,c13,c14⟩:=Box.c15 hz1
 obtain ⟨f0,f1,f2,f3,f4,f5,f6,f7,f8,f9,f10,f11,f12,f13,f14⟩:=Box.f15 hz1
 obtain ⟨d0,d1,d2,d3,d4,d5,d6,d7,d8,d9,d10,d11,d12,d13,d14⟩:=Box.c15 hz2
 obtain ⟨e0,e1,e2,e3,e4,e5,e6,e7,e8,e9,e10,e11,e12,e13,e14⟩:=Box.f15 hz2
 clear hz1 hz2 b1 b2 hb3 hB HX
 go_wp2_with fail
 refine bodyPost_ret (zcq rfl _ _ (w.heap.size+2) (w.heap.size+3) _ _ rfl rfl rfl rfl HF.out.1 HF.out.2.1) rfl ?_
 exact ⟨rfl,HF.out.2.2⟩
set_option maxRecDepth 100000 in
set_option maxHeartbeats 8000000 in
theorem zf3 (r:Pl.Rv) (h:Hd) (s:Seg) (ks:Hs) (w:World) (H:RvAt w r h) (hok:r.Ok) (HST:Hid (r.stamps=true∧s.st=false)) :
 Calls Try.prog 14 #[.agg #[.int .i64 r.s.n,.slice h.ua r.s.u.length h.uc,.slice h.la h.es.length h.lc,.int .i64 r.cap,.int .i64 r.shift,.int .i64 r.edge,.int .u32 r.recent,.bool r.stamps,.bool r.sacks,.int .i64 r.fin,.bool r.dn,.slice h.fa r.first.length h.fc,.int .u32 r.irs,.int .u32 r.own,.bool r.stamp],.agg #[.int .i64 s.sp,.int .i64 s.dp,.int .u32 s.sq,.int .u32 s.ak,.int .i64 s.fl,.int .i64 s.wn,.int .i64 s.ur,.int .i64 s.ms,.int .i64 s.sc,.bool s.so,.bool s.st,.int .u32 s.va,.int .u32 s.ec,.slice ks.ka s.sk.length ks.kc,.slice ks.da s.da.length ks.dc]] w fun e w'=>∃ k:Hd,e=.returned (.tuple #[.agg #[.int .i64 r.s.n,.slice k.ua r.s.u.length k.uc,.slice k.la k.es.length k.lc,.int .i64 r.cap,.int .i64 r.shift,.int .i64 r.edge,.int .u32 r.recent,.bool r.stamps,.bool r.sacks,.int .i64 r.fin,.bool r.dn,.slice k.fa r.first.length k.fc,.int .u32 r.irs,.int .u32 r.own,.bool r.stamp],.agg #[.int .i64 0,.int .i64 0,.int .u32 0,.int .u32 0,.int .i64 0,.int .i64 0,.int .i64 0,.int .i64 0,.int .i64 0,.bool false,.bool false,.int .u32 0,.int .u32 0,.slice none 0 0,.slice none 0 0],.bool false,.int .i64 0])∧RvOwn w' (w.heap.size+4) r k∧Below w.heap.size w w':=by
 obtain ⟨W0,hW0⟩:∃ W0,(((w.alloc (.cells #[.int .i64 r.s.n,.slice h.ua r.s.u.length h.uc,.slice h.la h.es.length h.lc,.int .i64 r.cap,.int .i64 r.shift,.int .i64 r.edge,.int .u32 r.recent,.bool r.stamps,.bool r.sacks,.int .i64 r.fin,.bool r.dn,.slice h.fa r.first.length h.fc,.int .u32 r.irs,.int .u32 r.own,.bool r.stamp] 27)).alloc (.cells #[.int .i64 s.sp,.int .i64 s.dp,.int .u32 s.sq,.int .u32 s.ak,.int .i64 s.fl,.int .i64 s.wn,.int .i64 s.ur,.int .i64 s.ms,.int .i64 s.sc,.bool s.so,.bool s.st,.int .u32 s.va,.int .u32 s.ec,.slice ks.ka s.sk.length ks.kc,.slice ks.da s.da.length ks.dc] 34)).alloc (.cells zR.toArray 27)).alloc (.cells zS.toArray 34)=W0:=⟨_,rfl⟩
 obtain ⟨hX,hG,hZ,hZS,hs0,b0⟩:Box W0 w.heap.size 27 (rvL r h)∧Box W0 (w.heap.size+1) 34 [.int .i64 s.sp,.int .i64 s.dp,.int .u32 s.sq,.int .u32 s.ak,.int .i64 s.fl,.int .i64 s.wn,.int .i64 s.ur,.int .i64 s.ms,.int .i64 s.sc,.bool s.so,.bool s.st,.int .u32 s.va,.int .u32 s.ec,.slice ks.ka s.sk.length ks.kc,.slice ks.da s.da.length ks.dc]∧Box W0 (w.heap.size+2) 27 zR∧Box W0 (w.heap.size+3) 34 zS∧W0.heap.size=w.heap.size+4∧Below w.heap.size w W0:=zgm w (rvL r h) (sgL s ks) hW0
 have HX:Hid (_∧_∧_∧_∧_∧_):=⟨hX,hG,hZ,hZS,hs0,b0⟩
 have HH:Hid (RvAt w r h∧r.Ok):=⟨H,hok⟩
 obtain ⟨c0,c1,c2,c3,c4,c5,c6,c7,c8,c9,c10,c11,c12,c13,c14⟩:=Box.c15 hX
 have cC:=zbk r h W0 (H.later b0) hok
 clear hX hG hZ hZS hs0 b0 H hok
 go_enter Try.func14,Try.ntmps14
 go_wp2_with fail
 refine cC.mono ?_
 rintro e w1 ⟨rfl,hB1⟩
 have HB1:Hid (Below W0.heap.size W0 w1):=hB1
 clear c0 c1 c2 c3 c4 c5 c6 c7 c8 c9 c10 c11 c12 c13 c14 cC hW0
 obtain ⟨c0,c1,c2,c3,c4,c5,c6,c7,c8,c9,c10,c11,c12,c13,c14⟩:=Box.c15 (HX.out.1.later hB1)
 have cR:=zcr r h w1 (HH.out.1.later (Below.on HX.out.2.2.2.2.2 hB1))
 clear hB1
 go_wp2_with fail
 refine cR.mono ?_
 rintro e w3 ⟨k,rfl,hO3,hB3⟩
 have hx3:=(HX.out.1.later HB1.out).later hB3
 have s0:=HX.out.2.2.2.2.1
 have s1:=HB1.out.size
 obtain ⟨X,hX⟩:∃ X,setAll w3 w.heap.size 0 (rvL r k)=X:=⟨_,rfl⟩
 have hXc:(((((((((((((((w3.setCell ⟨w.heap.size,0,none⟩ (.int .i64 r.s.n)).setCell ⟨w.heap.size,1,none⟩ (.slice k.ua r.s.u.length k.uc)).setCell ⟨w.heap.size,2,none⟩ (.slice k.la k.es.length k.lc)).setCell ⟨w.heap.size,3,none⟩ (.int .i64 r.cap)).setCell ⟨w.heap.size,4,none⟩ (.int .i64 r.shift)).setCell ⟨w.heap.size,5,none⟩ (.int .i64 r.edge)).setCell ⟨w.heap.size,6,none⟩ (.int .u32 r.recent)).setCell ⟨w.heap.size,7,none⟩ (.bool r.stamps)).setCell ⟨w.heap.size,8,none⟩ (.bool r.sacks)).setCell ⟨w.heap.size,9,none⟩ (.int .i64 r.fin)).setCell ⟨w.heap.size,10,none⟩ (.bool r.dn)).setCell ⟨w.heap.size,11,none⟩ (.slice k.fa r.first.length k.fc)).setCell ⟨w.heap.size,12,none⟩ (.int .u32 r.irs)).setCell ⟨w.heap.size,13,none⟩ (.int .u32 r.own)).setCell ⟨w.heap.size,14,none⟩ (.bool r.stamp))=X:=hX
 have bX:Box X w.heap.size 27 (rvL r k):=by rw [← hX];exact hx3.put (rvL r k) rfl
 have bG:Box X (w.heap.size+1) 34 [.int .i64 s.sp,.int .i64 s.dp,.int .u32 s.sq,.int .u32 s.ak,.int .i64 s.fl,.int .i64 s.wn,.int .i64 s.ur,.int .i64 s.ms,.int .i64 s.sc,.bool s.so,.bool s.st,.int .u32 s.va,.int .u32 s.ec,.slice ks.ka s.sk.length ks.kc,.slice ks.da s.da.length ks.dc]:=by rw [← hX];exact ((HX.out.2.1.later HB1.out).later hB3).putAside _ _ _ (by omega)
 have bZ:Box X (w.heap.size+2) 27 zR:=by rw [← hX];exact ((HX.out.2.2.1.later HB1.out).later hB3).putAside _ _ _ (by omega)
 have bS:Box X (w.heap.size+3) 34 zS:=by rw [← hX];exact ((HX.out.2.2.2.1.later HB1.out).later hB3).putAside _ _ _ (by omega)
 have oX:RvOwn X (w.heap.size+4) r k:=by rw [← hX];exact (hO3.mono (by omega)).aside _ _ _ (by omega)
 have lX:Below w.heap.size w X:=by rw [← hX];exact zaf (Nat.le_refl _) (Below.on HX.out.2.2.2.2.2 (Below.on HB1.out hB3))
 have HXX:Hid (Box X w.heap.size 27 (rvL r k)∧Box X (w.heap.size+1) 34 [.int .i64 s.sp,.int .i64 s.dp,.int .u32 s.sq,.int .u32 s.ak,.int .i64 s.fl,.int .i64 s.wn,.int .i64 s.ur,.int .i64 s.ms,.int .i64 s.sc,.bool s.so,.bool s.st,.int .u32 s.va,.int .u32 s.ec,.slice ks.ka s.sk.length ks.kc,.slice ks.da s.da.length ks.dc]∧Box X (w.heap.size+2) 27 zR∧Box X (w.heap.size+3) 34 zS∧RvOwn X (w.heap.size+4) r k∧Below w.heap.size w X):=⟨bX,bG,bZ,bS,oX,lX⟩
 have HXc:Hid ((((((((((((((((w3.setCell ⟨w.heap.size,0,none⟩ (.int .i64 r.s.n)).setCell ⟨w.heap.size,1,none⟩ (.slice k.ua r.s.u.length k.uc)).setCell ⟨w.heap.size,2,none⟩ (.slice k.la k.es.length k.lc)).setCell ⟨w.heap.size,3,none⟩ (.int .i64 r.cap)).setCell ⟨w.heap.size,4,none⟩ (.int .i64 r.shift)).setCell ⟨w.heap.size,5,none⟩ (.int .i64 r.edge)).setCell ⟨w.heap.size,6,none⟩ (.int .u32 r.recent)).setCell ⟨w.heap.size,7,none⟩ (.bool r.stamps)).setCell ⟨w.heap.size,8,none⟩ (.bool r.sacks)).setCell ⟨w.heap.size,9,none⟩ (.int .i64 r.fin)).setCell ⟨w.heap.size,10,none⟩ (.bool r.dn)).setCell ⟨w.heap.size,11,none⟩ (.slice k.fa r.first.length k.fc)).setCell ⟨w.heap.size,12,none⟩ (.int .u32 r.irs)).setCell ⟨w.heap.size,13,none⟩ (.int .u32 r.own)).setCell ⟨w.heap.size,14,none⟩ (.bool r.stamp))=X):=hXc
 clear c0 c1 c2 c3 c4 c5 c6 c7 c8 c9 c10 c11 c12 c13 c14 cR hO3 hB3 hX hXc bX bG bZ bS oX lX HB1 HX s0 s1
 obtain ⟨c0,c1,c2,c3,c4,c5,c6,c7,c8,c9,c10,c11,c12,c13,c14⟩:=Box.c15 hx3
 obtain ⟨f0,f1,f2,f3,f4,f5,f6,f7,f8,f9,f10,f11,f12,f13,f14⟩:=Box.f15 hx3
 clear hx3
 go_upto_region 5 with fail
 rw [HXc.out]
 clear c0 c1 c2 c3 c4 c5 c6 c7 c8 c9 c10 c11 c12 c13 c14 f0 f1 f2 f3 f4 f5 f6 f7 f8 f9 f10 f11 f12 f13 f14 HXc
 have c7:=HXX.out.1.cell 7 rfl
 have c10:=HXX.out.2.1.cell 10 rfl
 have t1:=HST.out.1
 have t2:=HST.out.2
 go_upto_region 6 with fail
 clear t1 t2 c7 c10
 obtain ⟨Y,hY⟩:∃ Y,setAll (setAll X (w.heap.size+2) 0 [.int .i64 r.s.n,.slice k.ua r.s.u.length k.uc,.slice k.la k.es.length k.lc,.int .i64 r.cap,.int .i64 r.shift,.int .i64 r.edge,.int .u32 r.recent,.bool r.stamps,.bool r.sacks,.int .i64 r.fin,.bool r.dn,.slice k.fa r.first.length k.fc,.int .u32 r.irs,.int .u32 r.own,.bool r.stamp]) (w.heap.size+3) 0 zS=Y:=⟨_,rfl⟩
 have HF:Hid (Box Y (w.heap.size+2) 27 (rvL r k)∧Box Y (w.heap.size+3) 34 zS∧RvOwn Y (w.heap.size+4) r k∧Below w.heap.size w Y):=by
  rw [← hY]
  exact ⟨(HXX.out.2.2.1.put [.int .i64 r.s.n,.slice k.ua r.s.u.length k.uc,.slice k.la k.es.length k.lc,.int .i64 r.cap,.int .i64 r.shift,.int .i64 r.edge,.int .u32 r.recent,.bool r.stamps,.bool r.sacks,.int .i64 r.fin,.bool r.dn,.slice k.fa r.first.length k.fc,.int .u32 r.irs,.int .u32 r.own,.bool r.stamp] rfl).putAside _ _ _ (by omega),(HXX.out.2.2.2.1.putAside _ _ _ (by omega)).put _ rfl,(HXX.out.2.2.2.2.1.aside _ _ _ (by omega)).aside _ _ _ (by omega),zaf (by omega) (zaf (by omega) HXX.out.2.2.2.2.2)⟩
 have HY:Hid (setAll (setAll X (w.heap.size+2) 0 [.int .i64 r.s.n,.slice k.ua r.s.u.length k.uc,.slice k.la k.es.length k.lc,.int .i64 r.cap,.int .i64 r.shift,.int .i64 r.edge,.int .u32 r.recent,.bool r.stamps,.bool r.sacks,.int .i64 r.fin,.bool r.dn,.slice k.fa r.first.length k.fc,.int .u32 r.irs,.int .u32 r.own,.bool r.stamp]) (w.heap.size+3) 0 zS=Y):=hY
 clear hY
 obtain ⟨c0,c1,c2,c3,c4,c5,c6,c7,c8,c9,c10,c11,c12,c13,c14⟩:=Box.c15 HXX.out.1
 obtain ⟨q0,q1,q2,q3,q4,q5,q6,q7,q8,q9,q10,q11,q12,q13,q14⟩:=Box.c15 HXX.out.2.2.1
 obtain ⟨f0,f1,f2,f3,f4,f5,f6,f7,f8,f9,f10,f11,f12,f13,f14⟩:=Box.f15 HXX.out.2.2.1
 obtain ⟨d0,d1,d2,d3,d4,d5,d6,d7,d8,d9,d10,d11,d12,d13,d14⟩:=Box.c15 HXX.out.2.2.2.1
 obtain ⟨e0,e1,e2,e3,e4,e5,e6,e7,e8,e9,e10,e11,e12,e13,e14⟩:=Box.f15 HXX.out.2.2.2.1
 go_wp2_with fail
 have h0:=HF.out
 rw [← HY.out] at h0
 refine bodyPost_ret (zcq rfl _ _ (w.heap.size+2) (w.heap.size+3) [.int .i64 r.s.n,.slice k.ua r.s.u.length k.uc,.slice k.la k.es.length k.lc,.int .i64 r.cap,.int .i64 r.shift,.int .i64 r.edge,.int .u32 r.recent,.bool r.stamps,.bool r.sacks,.int .i64 r.fin,.bool r.dn,.slice k.fa r.first.length k.fc,.int .u32 r.irs,.int .u32 r.own,.bool r.stamp] zS rfl rfl rfl rfl h0.1 h0.2.1) rfl ?_
 exact ⟨k,rfl,h0.2.2.1,h0.2.2.2⟩
end Go.Proofs.Ytkigcdmlkmcdcaa
