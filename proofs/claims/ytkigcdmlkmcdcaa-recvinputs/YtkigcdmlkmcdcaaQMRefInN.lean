/- The document's Input, of what may not be, and where a stamp is wanted and there is none. -/
import Derived.Test.YtkigcdmlkmcdcaaQZ
import Derived.Test.YtkigcdmlkmcdcaaQMRefIn2
import Derived.Test.YtkigcdmlkmcdcaaQMRefTel2
namespace Go.Proofs.Ytkigcdmlkmcdcaa
open Go.ChangeShapes Go.WideShapes Go.ChangeAt Go.RowKit
set_option linter.unusedVariables false
set_option linter.unusedSimpArgs false
set_option maxRecDepth 100000 in
set_option maxHeartbeats 16000000 in
theorem refInput_no (r:Pl.Rv) (h:Hd) (s:Seg) (ks:Hs) (w:World) (H:RvAt w r h) (hok:¬r.Ok) :
 Calls Try.prog 15 #[.agg #[.int .i64 r.s.n,.slice h.ua r.s.u.length h.uc,.slice h.la h.es.length h.lc,.int .i64 r.cap,.int .i64 r.shift,.int .i64 r.edge,.int .u32 r.recent,.bool r.stamps,.bool r.sacks,.int .i64 r.fin,.bool r.dn,.slice h.fa r.first.length h.fc,.int .u32 r.irs,.int .u32 r.own,.bool r.stamp],.agg #[.int .i64 s.sp,.int .i64 s.dp,.int .u32 s.sq,.int .u32 s.ak,.int .i64 s.fl,.int .i64 s.wn,.int .i64 s.ur,.int .i64 s.ms,.int .i64 s.sc,.bool s.so,.bool s.st,.int .u32 s.va,.int .u32 s.ec,.slice ks.ka s.sk.length ks.kc,.slice ks.da s.da.length ks.dc]] w fun e w'=>e=.returned (.tuple #[.agg #[.int .i64 0,.slice none 0 0,.slice none 0 0,.int .i64 0,.int .i64 0,.int .i64 0,.int .u32 0,.bool false,.bool false,.int .i64 0,.bool false,.slice none 0 0,.int .u32 0,.int .u32 0,.bool false],.agg #[.int .i64 0,.int .i64 0,.int .u32 0,.int .u32 0,.int .i64 0,.int .i64 0,.int .i64 0,.int .i64 0,.int .i64 0,.bool false,.bool false,.int .u32 0,.int .u32 0,.slice none 0 0,.slice none 0 0],.bool false,.int .i64 230])∧Below w.heap.size w w':=by
 obtain ⟨W0,hW0⟩:∃ W0,(((w.alloc (.cells #[.int .i64 r.s.n,.slice h.ua r.s.u.length h.uc,.slice h.la h.es.length h.lc,.int .i64 r.cap,.int .i64 r.shift,.int .i64 r.edge,.int .u32 r.recent,.bool r.stamps,.bool r.sacks,.int .i64 r.fin,.bool r.dn,.slice h.fa r.first.length h.fc,.int .u32 r.irs,.int .u32 r.own,.bool r.stamp] 27)).alloc (.cells #[.int .i64 s.sp,.int .i64 s.dp,.int .u32 s.sq,.int .u32 s.ak,.int .i64 s.fl,.int .i64 s.wn,.int .i64 s.ur,.int .i64 s.ms,.int .i64 s.sc,.bool s.so,.bool s.st,.int .u32 s.va,.int .u32 s.ec,.slice ks.ka s.sk.length ks.kc,.slice ks.da s.da.length ks.dc] 34)).alloc (.cells zR.toArray 27)).alloc (.cells zS.toArray 34)=W0:=⟨_,rfl⟩
 obtain ⟨hX,hG,hZ,hZS,hs0,b0⟩:Box W0 w.heap.size 27 (rvL r h)∧Box W0 (w.heap.size+1) 34 [.int .i64 s.sp,.int .i64 s.dp,.int .u32 s.sq,.int .u32 s.ak,.int .i64 s.fl,.int .i64 s.wn,.int .i64 s.ur,.int .i64 s.ms,.int .i64 s.sc,.bool s.so,.bool s.st,.int .u32 s.va,.int .u32 s.ec,.slice ks.ka s.sk.length ks.kc,.slice ks.da s.da.length ks.dc]∧Box W0 (w.heap.size+2) 27 zR∧Box W0 (w.heap.size+3) 34 zS∧W0.heap.size=w.heap.size+4∧Below w.heap.size w W0:=zgm w (rvL r h) (sgL s ks) hW0
 have HX:Hid (Box W0 w.heap.size 27 (rvL r h)∧Box W0 (w.heap.size+1) 34 [.int .i64 s.sp,.int .i64 s.dp,.int .u32 s.sq,.int .u32 s.ak,.int .i64 s.fl,.int .i64 s.wn,.int .i64 s.ur,.int .i64 s.ms,.int .i64 s.sc,.bool s.so,.bool s.st,.int .u32 s.va,.int .u32 s.ec,.slice ks.ka s.sk.length ks.kc,.slice ks.da s.da.length ks.dc]∧Box W0 (w.heap.size+2) 27 zR∧Box W0 (w.heap.size+3) 34 zS∧W0.heap.size=w.heap.size+4∧Below w.heap.size w W0):=⟨hX,hG,hZ,hZS,hs0,b0⟩
 obtain ⟨c0,c1,c2,c3,c4,c5,c6,c7,c8,c9,c10,c11,c12,c13,c14⟩:=Box.c15 hX
 have cC:=refChk_no r h W0 (H.later b0) hok
 clear hX hG hZ hZS hs0 b0 H hok
 go_enter Try.func15,Try.ntmps15
 go_wp2_with fail
 refine cC.mono ?_
 rintro e w1 ⟨rfl,hB⟩
 clear c0 c1 c2 c3 c4 c5 c6 c7 c8 c9 c10 c11 c12 c13 c14 cC hW0
 have hz1:=HX.out.2.2.1.later hB
 have hz2:=HX.out.2.2.2.1.later hB
 obtain ⟨Y,hY⟩:∃ Y,setAll (setAll w1 (w.heap.size+2) 0 zR) (w.heap.size+3) 0 zS=Y:=⟨_,rfl⟩
 have HF:Hid (Box Y (w.heap.size+2) 27 zR∧Box Y (w.heap.size+3) 34 zS∧Below w.heap.size w Y):=by
  rw [← hY]
  exact ⟨(hz1.put zR rfl).putAside _ _ _ (by omega),(hz2.putAside _ _ _ (by omega)).put _ rfl,zaf (by omega) (zaf (by omega) (Below.on HX.out.2.2.2.2.2 hB))⟩
 have HY:Hid (setAll (setAll w1 (w.heap.size+2) 0 zR) (w.heap.size+3) 0 zS=Y):=hY
 obtain ⟨c0,c1,c2,c3,c4,c5,c6,c7,c8,c9,c10,c11,c12,c13,c14⟩:=Box.c15 hz1
 obtain ⟨f0,f1,f2,f3,f4,f5,f6,f7,f8,f9,f10,f11,f12,f13,f14⟩:=Box.f15 hz1
 obtain ⟨d0,d1,d2,d3,d4,d5,d6,d7,d8,d9,d10,d11,d12,d13,d14⟩:=Box.c15 hz2
 obtain ⟨e0,e1,e2,e3,e4,e5,e6,e7,e8,e9,e10,e11,e12,e13,e14⟩:=Box.f15 hz2
 clear hz1 hz2 hB HX hY
 go_wp2_with fail
 have h0:=HF.out
 rw [← HY.out] at h0
 refine bodyPost_ret (zcq rfl _ _ (w.heap.size+2) (w.heap.size+3) zR zS rfl rfl rfl rfl h0.1 h0.2.1) rfl ?_
 exact ⟨rfl,h0.2.2⟩
set_option maxRecDepth 100000 in
set_option maxHeartbeats 16000000 in
theorem zgw (r:Pl.Rv) (h:Hd) (s:Seg) (ks:Hs) (w:World) (H:RvAt w r h) (hok:r.Ok) (HST:Hid (r.stamps=true∧s.st=false)) :
 Calls Try.prog 15 #[.agg #[.int .i64 r.s.n,.slice h.ua r.s.u.length h.uc,.slice h.la h.es.length h.lc,.int .i64 r.cap,.int .i64 r.shift,.int .i64 r.edge,.int .u32 r.recent,.bool r.stamps,.bool r.sacks,.int .i64 r.fin,.bool r.dn,.slice h.fa r.first.length h.fc,.int .u32 r.irs,.int .u32 r.own,.bool r.stamp],.agg #[.int .i64 s.sp,.int .i64 s.dp,.int .u32 s.sq,.int .u32 s.ak,.int .i64 s.fl,.int .i64 s.wn,.int .i64 s.ur,.int .i64 s.ms,.int .i64 s.sc,.bool s.so,.bool s.st,.int .u32 s.va,.int .u32 s.ec,.slice ks.ka s.sk.length ks.kc,.slice ks.da s.da.length ks.dc]] w fun e w'=>∃ k:Hd,e=.returned (.tuple #[.agg #[.int .i64 r.s.n,.slice k.ua r.s.u.length k.uc,.slice k.la k.es.length k.lc,.int .i64 r.cap,.int .i64 r.shift,.int .i64 r.edge,.int .u32 r.recent,.bool r.stamps,.bool r.sacks,.int .i64 r.fin,.bool r.dn,.slice k.fa r.first.length k.fc,.int .u32 r.irs,.int .u32 r.own,.bool r.stamp],.agg #[.int .i64 0,.int .i64 0,.int .u32 0,.int .u32 0,.int .i64 0,.int .i64 0,.int .i64 0,.int .i64 0,.int .i64 0,.bool false,.bool false,.int .u32 0,.int .u32 0,.slice none 0 0,.slice none 0 0],.bool false,.int .i64 0])∧RvAt w' r k∧Below w.heap.size w w':=by
 have HU:Hid (U32 r.recent∧U32 r.irs∧U32 r.own):=⟨H.recent,H.irs,H.own⟩
 obtain ⟨W0,hW0⟩:∃ W0,(((w.alloc (.cells #[.int .i64 r.s.n,.slice h.ua r.s.u.length h.uc,.slice h.la h.es.length h.lc,.int .i64 r.cap,.int .i64 r.shift,.int .i64 r.edge,.int .u32 r.recent,.bool r.stamps,.bool r.sacks,.int .i64 r.fin,.bool r.dn,.slice h.fa r.first.length h.fc,.int .u32 r.irs,.int .u32 r.own,.bool r.stamp] 27)).alloc (.cells #[.int .i64 s.sp,.int .i64 s.dp,.int .u32 s.sq,.int .u32 s.ak,.int .i64 s.fl,.int .i64 s.wn,.int .i64 s.ur,.int .i64 s.ms,.int .i64 s.sc,.bool s.so,.bool s.st,.int .u32 s.va,.int .u32 s.ec,.slice ks.ka s.sk.length ks.kc,.slice ks.da s.da.length ks.dc] 34)).alloc (.cells zR.toArray 27)).alloc (.cells zS.toArray 34)=W0:=⟨_,rfl⟩
 obtain ⟨hX,hG,hZ,hZS,hs0,b0⟩:Box W0 w.heap.size 27 (rvL r h)∧Box W0 (w.heap.size+1) 34 [.int .i64 s.sp,.int .i64 s.dp,.int .u32 s.sq,.int .u32 s.ak,.int .i64 s.fl,.int .i64 s.wn,.int .i64 s.ur,.int .i64 s.ms,.int .i64 s.sc,.bool s.so,.bool s.st,.int .u32 s.va,.int .u32 s.ec,.slice ks.ka s.sk.length ks.kc,.slice ks.da s.da.length ks.dc]∧Box W0 (w.heap.size+2) 27 zR∧Box W0 (w.heap.size+3) 34 zS∧W0.heap.size=w.heap.size+4∧Below w.heap.size w W0:=zgm w (rvL r h) (sgL s ks) hW0
 have HX:Hid (Box W0 w.heap.size 27 (rvL r h)∧Box W0 (w.heap.size+1) 34 [.int .i64 s.sp,.int .i64 s.dp,.int .u32 s.sq,.int .u32 s.ak,.int .i64 s.fl,.int .i64 s.wn,.int .i64 s.ur,.int .i64 s.ms,.int .i64 s.sc,.bool s.so,.bool s.st,.int .u32 s.va,.int .u32 s.ec,.slice ks.ka s.sk.length ks.kc,.slice ks.da s.da.length ks.dc]∧Box W0 (w.heap.size+2) 27 zR∧Box W0 (w.heap.size+3) 34 zS∧W0.heap.size=w.heap.size+4∧Below w.heap.size w W0):=⟨hX,hG,hZ,hZS,hs0,b0⟩
 have HH:Hid (RvAt w r h∧r.Ok):=⟨H,hok⟩
 have cC:=zeb r h W0 (H.later b0) hok
 obtain ⟨c0,c1,c2,c3,c4,c5,c6,c7,c8,c9,c10,c11,c12,c13,c14⟩:=Box.c15 hX
 clear hX hG hZ hZS hs0 b0 H hok
 go_enter Try.func15,Try.ntmps15
 go_wp2_with fail
 refine cC.mono ?_
 rintro e w1 ⟨rfl,hB1⟩
 have HB1:Hid (Below w.heap.size w w1∧Below W0.heap.size W0 w1):=⟨Below.on HX.out.2.2.2.2.2 hB1,hB1⟩
 clear c0 c1 c2 c3 c4 c5 c6 c7 c8 c9 c10 c11 c12 c13 c14 cC hW0 hB1
 obtain ⟨c0,c1,c2,c3,c4,c5,c6,c7,c8,c9,c10,c11,c12,c13,c14⟩:=Box.c15 (HX.out.1.later HB1.out.2)
 go_wp2_with fail
 refine (zct r h w1 (HH.out.1.later HB1.out.1)).mono ?_
 rintro e w2 ⟨k,rfl,hO,hB2⟩
 clear c0 c1 c2 c3 c4 c5 c6 c7 c8 c9 c10 c11 c12 c13 c14
 have hx2:=(HX.out.1.later HB1.out.2).later hB2
 have hx2':Box w2 w.heap.size 27 (rvL r h):=hx2
 obtain ⟨V,hV⟩:∃ V,setAll w2 w.heap.size 0 (rvL r k)=V:=⟨_,rfl⟩
 have HS:Hid (RiS w V r k s ks):=by
  have h0:=HX.out.2.2.2.2.1
  have h1:=HB1.out.2.size
  rw [← hV]
  refine ⟨hx2.put _ rfl,((HX.out.2.1.later HB1.out.2).later hB2).putAside _ _ _ (by omega),((HX.out.2.2.1.later HB1.out.2).later hB2).putAside _ _ _ (by omega),((HX.out.2.2.2.1.later HB1.out.2).later hB2).putAside _ _ _ (by omega),?_,?_,hO.frc,zaf (Nat.le_refl _) (Below.on HB1.out.1 hB2)⟩
  · exact (hO.mono (B':=w.heap.size) (by omega)).tk.besideAll (by decide) (by decide) _ _ _ 0 hx2
  · exact zav (hO.mono (B':=w.heap.size) (by omega)).fst hx2 (by decide) _ _
 have HV:Hid (setAll w2 w.heap.size 0 (rvL r k)=V):=hV
 obtain ⟨c0,c1,c2,c3,c4,c5,c6,c7,c8,c9,c10,c11,c12,c13,c14⟩:=Box.c15 hx2'
 obtain ⟨f0,f1,f2,f3,f4,f5,f6,f7,f8,f9,f10,f11,f12,f13,f14⟩:=Box.f15 hx2'
 clear hx2 hx2' hO hB2 HX HB1 hV
 go_upto_region 4 with fail
 clear c0 c1 c2 c3 c4 c5 c6 c7 c8 c9 c10 c11 c12 c13 c14 f0 f1 f2 f3 f4 f5 f6 f7 f8 f9 f10 f11 f12 f13 f14
 refine ze3 HV.out ?_
 clear HV
 have c7:=HS.out.box.cell 7 rfl
 have c10:=HS.out.sg.cell 10 rfl
 have t1:=HST.out.1
 have t2:=HST.out.2
 go_upto_region 5 with fail
 clear t1 t2 c7 c10
 obtain ⟨Y,hY⟩:∃ Y,setAll (setAll V (w.heap.size+2) 0 [.int .i64 r.s.n,.slice k.ua r.s.u.length k.uc,.slice k.la k.es.length k.lc,.int .i64 r.cap,.int .i64 r.shift,.int .i64 r.edge,.int .u32 r.recent,.bool r.stamps,.bool r.sacks,.int .i64 r.fin,.bool r.dn,.slice k.fa r.first.length k.fc,.int .u32 r.irs,.int .u32 r.own,.bool r.stamp]) (w.heap.size+3) 0 zS=Y:=⟨_,rfl⟩
 have HF:Hid (Box Y (w.heap.size+2) 27 (rvL r k)∧Box Y (w.heap.size+3) 34 zS∧RvAt Y r k∧Below w.heap.size w Y):=by
  have z1:=HS.out.zr
  have z2:=HS.out.zs.putAside (w.heap.size+2) 0 [.int .i64 r.s.n,.slice k.ua r.s.u.length k.uc,.slice k.la k.es.length k.lc,.int .i64 r.cap,.int .i64 r.shift,.int .i64 r.edge,.int .u32 r.recent,.bool r.stamps,.bool r.sacks,.int .i64 r.fin,.bool r.dn,.slice k.fa r.first.length k.fc,.int .u32 r.irs,.int .u32 r.own,.bool r.stamp] (by omega)
  rw [← hY]
  have tk:=(HS.out.tk.besideAll (by decide) (by decide) [.int .i64 r.s.n,.slice k.ua r.s.u.length k.uc,.slice k.la k.es.length k.lc,.int .i64 r.cap,.int .i64 r.shift,.int .i64 r.edge,.int .u32 r.recent,.bool r.stamps,.bool r.sacks,.int .i64 r.fin,.bool r.dn,.slice k.fa r.first.length k.fc,.int .u32 r.irs,.int .u32 r.own,.bool r.stamp] _ _ 0 z1).besideAll (by decide) (by decide) zS _ _ 0 z2
  have q1:=zc0 tk
  have fs:RowT (setAll (setAll V (w.heap.size+2) 0 [.int .i64 r.s.n,.slice k.ua r.s.u.length k.uc,.slice k.la k.es.length k.lc,.int .i64 r.cap,.int .i64 r.shift,.int .i64 r.edge,.int .u32 r.recent,.bool r.stamps,.bool r.sacks,.int .i64 r.fin,.bool r.dn,.slice k.fa r.first.length k.fc,.int .u32 r.irs,.int .u32 r.own,.bool r.stamp]) (w.heap.size+3) 0 zS) w.heap.size k.fa r.first.length k.fc r.first:=zav (zav HS.out.fst z1 (by decide) _ _) z2 (by decide) _ _
  have ha:=HS.out.at HH.out.2 HU.out.1 HU.out.2.1 HU.out.2.2
  exact ⟨(z1.put [.int .i64 r.s.n,.slice k.ua r.s.u.length k.uc,.slice k.la k.es.length k.lc,.int .i64 r.cap,.int .i64 r.shift,.int .i64 r.edge,.int .u32 r.recent,.bool r.stamps,.bool r.sacks,.int .i64 r.fin,.bool r.dn,.slice k.fa r.first.length k.fc,.int .u32 r.irs,.int .u32 r.own,.bool r.stamp] rfl).putAside _ _ _ (by omega),z2.put _ rfl,{ ha with un:=q1.ok.1,late:=tk.pcs,les:=tk.les,fst:=fs.sp HS.out.frc},zaf (by omega) (zaf (by omega) HS.out.bel)⟩
 have HY:Hid (setAll (setAll V (w.heap.size+2) 0 [.int .i64 r.s.n,.slice k.ua r.s.u.length k.uc,.slice k.la k.es.length k.lc,.int .i64 r.cap,.int .i64 r.shift,.int .i64 r.edge,.int .u32 r.recent,.bool r.stamps,.bool r.sacks,.int .i64 r.fin,.bool r.dn,.slice k.fa r.first.length k.fc,.int .u32 r.irs,.int .u32 r.own,.bool r.stamp]) (w.heap.size+3) 0 zS=Y):=hY
 clear hY
 obtain ⟨c0,c1,c2,c3,c4,c5,c6,c7,c8,c9,c10,c11,c12,c13,c14⟩:=Box.c15 HS.out.box
 obtain ⟨q0,q1,q2,q3,q4,q5,q6,q7,q8,q9,q10,q11,q12,q13,q14⟩:=Box.c15 HS.out.zr
 obtain ⟨f0,f1,f2,f3,f4,f5,f6,f7,f8,f9,f10,f11,f12,f13,f14⟩:=Box.f15 HS.out.zr
 obtain ⟨d0,d1,d2,d3,d4,d5,d6,d7,d8,d9,d10,d11,d12,d13,d14⟩:=Box.c15 HS.out.zs
 obtain ⟨e0,e1,e2,e3,e4,e5,e6,e7,e8,e9,e10,e11,e12,e13,e14⟩:=Box.f15 HS.out.zs
 go_wp2_with fail
 have h0:=HF.out
 rw [← HY.out] at h0
 refine bodyPost_ret (zcq rfl _ _ (w.heap.size+2) (w.heap.size+3) [.int .i64 r.s.n,.slice k.ua r.s.u.length k.uc,.slice k.la k.es.length k.lc,.int .i64 r.cap,.int .i64 r.shift,.int .i64 r.edge,.int .u32 r.recent,.bool r.stamps,.bool r.sacks,.int .i64 r.fin,.bool r.dn,.slice k.fa r.first.length k.fc,.int .u32 r.irs,.int .u32 r.own,.bool r.stamp] zS rfl rfl rfl rfl h0.1 h0.2.1) rfl ?_
 exact ⟨k,rfl,h0.2.2.1,h0.2.2.2⟩
end Go.Proofs.Ytkigcdmlkmcdcaa
