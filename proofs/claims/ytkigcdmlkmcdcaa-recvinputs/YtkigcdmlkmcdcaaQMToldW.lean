/- The document's Told, true of two segments that are alike. -/
import Derived.Test.YtkigcdmlkmcdcaaQZ
import Derived.Test.YtkigcdmlkmcdcaaQMSpansW
namespace Go.Proofs.Ytkigcdmlkmcdcaa
open Go.ChangeShapes Go.WideShapes Go.ChangeAt Go.RowKit
set_option linter.unusedVariables false
set_option linter.unusedSimpArgs false
theorem boxes2s (w:World) (s:Seg) (k q:Hs) {W0:World} (hW0:(w.alloc (.cells #[.int .i64 s.sp,.int .i64 s.dp,.int .u32 s.sq,.int .u32 s.ak,.int .i64 s.fl,.int .i64 s.wn,.int .i64 s.ur,.int .i64 s.ms,.int .i64 s.sc,.bool s.so,.bool s.st,.int .u32 s.va,.int .u32 s.ec,.slice k.ka s.sk.length k.kc,.slice k.da s.da.length k.dc] 34)).alloc (.cells #[.int .i64 s.sp,.int .i64 s.dp,.int .u32 s.sq,.int .u32 s.ak,.int .i64 s.fl,.int .i64 s.wn,.int .i64 s.ur,.int .i64 s.ms,.int .i64 s.sc,.bool s.so,.bool s.st,.int .u32 s.va,.int .u32 s.ec,.slice q.ka s.sk.length q.kc,.slice q.da s.da.length q.dc] 34)=W0):Box W0 w.heap.size 34 [.int .i64 s.sp,.int .i64 s.dp,.int .u32 s.sq,.int .u32 s.ak,.int .i64 s.fl,.int .i64 s.wn,.int .i64 s.ur,.int .i64 s.ms,.int .i64 s.sc,.bool s.so,.bool s.st,.int .u32 s.va,.int .u32 s.ec,.slice k.ka s.sk.length k.kc,.slice k.da s.da.length k.dc]∧Box W0 (w.heap.size+1) 34 [.int .i64 s.sp,.int .i64 s.dp,.int .u32 s.sq,.int .u32 s.ak,.int .i64 s.fl,.int .i64 s.wn,.int .i64 s.ur,.int .i64 s.ms,.int .i64 s.sc,.bool s.so,.bool s.st,.int .u32 s.va,.int .u32 s.ec,.slice q.ka s.sk.length q.kc,.slice q.da s.da.length q.dc]∧W0.heap.size=w.heap.size+2∧Below w.heap.size w W0:=by
 rw [← hW0]
 have e:(w.alloc (.cells #[.int .i64 s.sp,.int .i64 s.dp,.int .u32 s.sq,.int .u32 s.ak,.int .i64 s.fl,.int .i64 s.wn,.int .i64 s.ur,.int .i64 s.ms,.int .i64 s.sc,.bool s.so,.bool s.st,.int .u32 s.va,.int .u32 s.ec,.slice k.ka s.sk.length k.kc,.slice k.da s.da.length k.dc] 34)).heap.size=w.heap.size+1:=by simp
 refine ⟨(Box.new w 34 [.int .i64 s.sp,.int .i64 s.dp,.int .u32 s.sq,.int .u32 s.ak,.int .i64 s.fl,.int .i64 s.wn,.int .i64 s.ur,.int .i64 s.ms,.int .i64 s.sc,.bool s.so,.bool s.st,.int .u32 s.va,.int .u32 s.ec,.slice k.ka s.sk.length k.kc,.slice k.da s.da.length k.dc]).alloc _,?_,by simp,zaa (zaa (Below.refl _ _) _) _⟩
 have:=Box.new (w.alloc (.cells #[.int .i64 s.sp,.int .i64 s.dp,.int .u32 s.sq,.int .u32 s.ak,.int .i64 s.fl,.int .i64 s.wn,.int .i64 s.ur,.int .i64 s.ms,.int .i64 s.sc,.bool s.so,.bool s.st,.int .u32 s.va,.int .u32 s.ec,.slice k.ka s.sk.length k.kc,.slice k.da s.da.length k.dc] 34)) 34 [.int .i64 s.sp,.int .i64 s.dp,.int .u32 s.sq,.int .u32 s.ak,.int .i64 s.fl,.int .i64 s.wn,.int .i64 s.ur,.int .i64 s.ms,.int .i64 s.sc,.bool s.so,.bool s.st,.int .u32 s.va,.int .u32 s.ec,.slice q.ka s.sk.length q.kc,.slice q.da s.da.length q.dc]
 rw [e] at this
 exact this
set_option maxRecDepth 100000 in
set_option maxHeartbeats 4000000 in
theorem sameSg_any (s:Seg) (k q:Hs) (w:World) (HA:zbc w k.ka s.sk∧zak w k.da s.da) (HB:zbc w q.ka s.sk∧zak w q.da s.da):Calls Try.prog 44 #[.agg #[.int .i64 s.sp,.int .i64 s.dp,.int .u32 s.sq,.int .u32 s.ak,.int .i64 s.fl,.int .i64 s.wn,.int .i64 s.ur,.int .i64 s.ms,.int .i64 s.sc,.bool s.so,.bool s.st,.int .u32 s.va,.int .u32 s.ec,.slice k.ka s.sk.length k.kc,.slice k.da s.da.length k.dc],.agg #[.int .i64 s.sp,.int .i64 s.dp,.int .u32 s.sq,.int .u32 s.ak,.int .i64 s.fl,.int .i64 s.wn,.int .i64 s.ur,.int .i64 s.ms,.int .i64 s.sc,.bool s.so,.bool s.st,.int .u32 s.va,.int .u32 s.ec,.slice q.ka s.sk.length q.kc,.slice q.da s.da.length q.dc]] w fun e w'=>e=.returned (.bool true)∧Below w.heap.size w w':=by
 obtain ⟨W0,hW0⟩:∃ W0,(w.alloc (.cells #[.int .i64 s.sp,.int .i64 s.dp,.int .u32 s.sq,.int .u32 s.ak,.int .i64 s.fl,.int .i64 s.wn,.int .i64 s.ur,.int .i64 s.ms,.int .i64 s.sc,.bool s.so,.bool s.st,.int .u32 s.va,.int .u32 s.ec,.slice k.ka s.sk.length k.kc,.slice k.da s.da.length k.dc] 34)).alloc (.cells #[.int .i64 s.sp,.int .i64 s.dp,.int .u32 s.sq,.int .u32 s.ak,.int .i64 s.fl,.int .i64 s.wn,.int .i64 s.ur,.int .i64 s.ms,.int .i64 s.sc,.bool s.so,.bool s.st,.int .u32 s.va,.int .u32 s.ec,.slice q.ka s.sk.length q.kc,.slice q.da s.da.length q.dc] 34)=W0:=⟨_,rfl⟩
 obtain ⟨hX,hG,hs0,b0⟩:=boxes2s w s k q hW0
 obtain ⟨c0,c1,c2,c3,c4,c5,c6,c7,c8,c9,c10,c11,c12,c13,c14⟩:=Box.c15 hX
 obtain ⟨d0,d1,d2,d3,d4,d5,d6,d7,d8,d9,d10,d11,d12,d13,d14⟩:=Box.c15 hG
 have HS:Hid ((zbc W0 k.ka s.sk∧zak W0 k.da s.da)∧(zbc W0 q.ka s.sk∧zak W0 q.da s.da)∧Below w.heap.size w W0∧Box W0 w.heap.size 34 [.int .i64 s.sp,.int .i64 s.dp,.int .u32 s.sq,.int .u32 s.ak,.int .i64 s.fl,.int .i64 s.wn,.int .i64 s.ur,.int .i64 s.ms,.int .i64 s.sc,.bool s.so,.bool s.st,.int .u32 s.va,.int .u32 s.ec,.slice k.ka s.sk.length k.kc,.slice k.da s.da.length k.dc]∧Box W0 (w.heap.size+1) 34 [.int .i64 s.sp,.int .i64 s.dp,.int .u32 s.sq,.int .u32 s.ak,.int .i64 s.fl,.int .i64 s.wn,.int .i64 s.ur,.int .i64 s.ms,.int .i64 s.sc,.bool s.so,.bool s.st,.int .u32 s.va,.int .u32 s.ec,.slice q.ka s.sk.length q.kc,.slice q.da s.da.length q.dc]):=⟨⟨HA.1.later b0,HA.2.later b0⟩,⟨HB.1.later b0,HB.2.later b0⟩,b0,hX,hG⟩
 have hb1:s.sk.length≤9223372036854775807:=by have:=HA.1.1;unfold maxLen at this;omega
 have HSm:Hid (∀ W,Below W0.heap.size W0 W→Calls Try.prog 21 #[.slice k.da s.da.length k.dc,.slice q.da s.da.length q.dc] W fun e w'=>e=.returned (.bool true)∧Below W.heap.size W w'):=fun W hW=>by
  refine (zgu k.da q.da k.dc q.dc s.da s.da W (HS.out.1.2.later hW) (HS.out.2.1.2.later hW)).mono ?_
  rintro e w' ⟨rfl,rfl⟩
  simp only [decide_true]
  exact ⟨trivial,Below.refl _ _⟩
 clear hX hG hs0 b0 HA HB
 go_enter Try.func44,Try.ntmps44
 go_wp2_with fail
 clear c0 c1 c2 c3 c4 c5 c6 c7 c8 c9 c10 c11 c12 c13 c14 d0 d1 d2 d3 d4 d5 d6 d7 d8 d9 d10 d11 d12 d13 d14 hW0
 go_loopw [5] (fun vj wr=>∃ j:Nat,vj=.int .i64 (j:Int)∧j≤s.sk.length∧Hid (Below W0.heap.size W0 wr)) (fun vj _=>s.sk.length-(intOf vj).toNat)
 case atStart=>exact ⟨0,rfl,Nat.zero_le _,Below.refl _ _⟩
 case round =>
  obtain ⟨j,rfl,hj,HR⟩:=hrel
  have c2:=(HS.out.2.2.2.1.later HR.out).cell 13 rfl
  by_cases hlt:j<s.sk.length
  · have hlt':(j:Int)<(s.sk.length:Int):=by omega
    have d2:=(HS.out.2.2.2.2.later HR.out).cell 13 rfl
    obtain ⟨b,o,ka,e1,e2⟩:=(HS.out.1.1.later HR.out).2 j hlt
    obtain ⟨b',o',qa,e1',e2'⟩:=(HS.out.2.1.1.later HR.out).2 j hlt
    rw [ka] at c2
    rw [qa] at d2
    obtain ⟨f,hf⟩:∃ f,(s.sk[j]?.getD (0,0)).1=f:=⟨_,rfl⟩
    obtain ⟨t,ht⟩:∃ t,(s.sk[j]?.getD (0,0)).2=t:=⟨_,rfl⟩
    rw [hf] at e1 e1'
    rw [ht] at e2 e2'
    obtain ⟨S,hS⟩:∃ S:World→Prop,S=fun W=>W.cell? ⟨w.heap.size,13,none⟩=some (.slice (some ⟨b,o,none⟩) s.sk.length k.kc)∧W.cell? ⟨w.heap.size+1,13,none⟩=some (.slice (some ⟨b',o',none⟩) s.sk.length q.kc)∧W.cell? ⟨b,o+j*2,none⟩=some (.int .u32 f)∧W.cell? ⟨b,o+j*2+1,none⟩=some (.int .u32 t)∧W.cell? ⟨b',o'+j*2,none⟩=some (.int .u32 f)∧W.cell? ⟨b',o'+j*2+1,none⟩=some (.int .u32 t):=⟨_,rfl⟩
    have HSK:Hid (∀ W,Below wr.heap.size wr W→S W):=fun W hW=>by
     rw [hS]
     exact ⟨(hW.cell (p:=⟨_,_,none⟩) (zac c2)).trans c2,(hW.cell (p:=⟨_,_,none⟩) (zac d2)).trans d2,(hW.cell (p:=⟨_,_,none⟩) (zac e1)).trans e1,(hW.cell (p:=⟨_,_,none⟩) (zac e2)).trans e2,(hW.cell (p:=⟨_,_,none⟩) (zac e1')).trans e1',(hW.cell (p:=⟨_,_,none⟩) (zac e2')).trans e2'⟩
    clear ka qa e1 e2 e1' e2' d2 hf ht
    go_wp2_with fail
    as_aux_lemma =>
     obtain ⟨y0,y1,y2,y3,y4,y5,y6,y7,y8,y9,y10⟩:(∀ {ps} (ev:EV),ev (.tmp 2)=.pointer (some ⟨w.heap.size,0,none⟩)→Yl Try.prog S ev ⟨some 109,.fieldAddr 34 (.tmp 2) 13,0,ps,#[],none⟩ ((.pointer (some ⟨w.heap.size,13,none⟩))))∧(∀ {ps} (ev:EV),ev (.tmp 109)=.pointer (some ⟨w.heap.size,13,none⟩)→Yl Try.prog S ev ⟨some 110,.load 32 (.tmp 109),32,ps,#[⟨0,.data⟩],none⟩ ((.slice (some ⟨b,o,none⟩) s.sk.length k.kc)))∧(∀ {ps} (ev:EV),ev (.tmp 5)=.int .i64 (j:Int)→Yl Try.prog S ev ⟨some 111,.move (.tmp 5),3,ps,#[],none⟩ ((.int .i64 (j:Int))))∧(∀ {ps} (ev:EV),ev (.tmp 110)=.slice (some ⟨b,o,none⟩) s.sk.length k.kc→ev (.tmp 111)=.int .i64 (j:Int)→Yl Try.prog S ev ⟨some 112,.indexAddr 32 (.tmp 110) (.tmp 111),0,ps,#[⟨1,.data⟩,⟨2,.data⟩],none⟩ ((.pointer (some ⟨b,o+j*2,none⟩))))∧(∀ {ps} (ev:EV),ev (.tmp 112)=.pointer (some ⟨b,o+j*2,none⟩)→Yl Try.prog S ev ⟨some 113,.load 62 (.tmp 112),62,ps,#[⟨3,.data⟩],none⟩ ((.agg #[.int .u32 f,.int .u32 t])))∧(∀ {ps} (ev:EV),ev (.tmp 3)=.pointer (some ⟨w.heap.size+1,0,none⟩)→Yl Try.prog S ev ⟨some 114,.fieldAddr 34 (.tmp 3) 13,0,ps,#[],none⟩ ((.pointer (some ⟨w.heap.size+1,13,none⟩))))∧(∀ {ps} (ev:EV),ev (.tmp 114)=.pointer (some ⟨w.heap.size+1,13,none⟩)→Yl Try.prog S ev ⟨some 115,.load 32 (.tmp 114),32,ps,#[⟨5,.data⟩],none⟩ ((.slice (some ⟨b',o',none⟩) s.sk.length q.kc)))∧(∀ {ps} (ev:EV),ev (.tmp 5)=.int .i64 (j:Int)→Yl Try.prog S ev ⟨some 116,.move (.tmp 5),3,ps,#[],none⟩ ((.int .i64 (j:Int))))∧(∀ {ps} (ev:EV),ev (.tmp 115)=.slice (some ⟨b',o',none⟩) s.sk.length q.kc→ev (.tmp 116)=.int .i64 (j:Int)→Yl Try.prog S ev ⟨some 117,.indexAddr 32 (.tmp 115) (.tmp 116),0,ps,#[⟨6,.data⟩,⟨7,.data⟩],none⟩ ((.pointer (some ⟨b',o'+j*2,none⟩))))∧(∀ {ps} (ev:EV),ev (.tmp 117)=.pointer (some ⟨b',o'+j*2,none⟩)→Yl Try.prog S ev ⟨some 118,.load 62 (.tmp 117),62,ps,#[⟨8,.data⟩],none⟩ ((.agg #[.int .u32 f,.int .u32 t])))∧(∀ {ps} (ev:EV),ev (.tmp 113)=.agg #[.int .u32 f,.int .u32 t]→ev (.tmp 118)=.agg #[.int .u32 f,.int .u32 t]→Yl Try.prog S ev ⟨some 119,.binOp .neq 62 (.tmp 113) (.tmp 118) 62,4,ps,#[⟨4,.data⟩,⟨9,.data⟩],none⟩ ((.bool false))):=by
      refine ⟨?_,?_,?_,?_,?_,?_,?_,?_,?_,?_,?_⟩<;>(intros;intro W hSw;rw [hS] at hSw;(try dsimp only at hSw);go_simp<;>with_reducible rfl)
     refine zb4 (fun W'=>S W'∧Below wr.heap.size wr W') (by kernel_rfl) (by kernel_rfl) ?hC ?_
     case hC=>exact ⟨HSK.out _ (Below.drew (Below.refl _ _)),Below.drew (Below.refl _ _)⟩
     refine zab (by kernel_rfl) (fun W hW=>y0 _ rfl W hW.1) ?_
     try simp only [Act.put,qA,qZ,qS]
     refine zab (by kernel_rfl) (fun W hW=>y1 _ rfl W hW.1) ?_
     try simp only [Act.put,qA,qZ,qS]
     refine zab (by kernel_rfl) (fun W hW=>y2 _ rfl W hW.1) ?_
     try simp only [Act.put,qA,qZ,qS]
     refine zab (by kernel_rfl) (fun W hW=>y3 _ rfl rfl W hW.1) ?_
     try simp only [Act.put,qA,qZ,qS]
     refine zab (by kernel_rfl) (fun W hW=>y4 _ rfl W hW.1) ?_
     try simp only [Act.put,qA,qZ,qS]
     refine zab (by kernel_rfl) (fun W hW=>y5 _ rfl W hW.1) ?_
     try simp only [Act.put,qA,qZ,qS]
     refine zab (by kernel_rfl) (fun W hW=>y6 _ rfl W hW.1) ?_
     try simp only [Act.put,qA,qZ,qS]
     refine zab (by kernel_rfl) (fun W hW=>y7 _ rfl W hW.1) ?_
     try simp only [Act.put,qA,qZ,qS]
     refine zab (by kernel_rfl) (fun W hW=>y8 _ rfl rfl W hW.1) ?_
     try simp only [Act.put,qA,qZ,qS]
     refine zab (by kernel_rfl) (fun W hW=>y9 _ rfl W hW.1) ?_
     try simp only [Act.put,qA,qZ,qS]
     refine zab (by kernel_rfl) (fun W hW=>y10 _ rfl rfl W hW.1) ?_
     try simp only [Act.put,qA,qZ,qS]
     refine zb2 ?_
     intro W5 hC5
     have HB5:Hid (Below W0.heap.size W0 W5):=Below.on HR.out hC5.2
     clear y0 y1 y2 y3 y4 y5 y6 y7 y8 y9 y10 hC5 HSK HR c2
     go_wp2_with fail
     go_roundw
     case rel=>exact ⟨j+1,by go_num,by omega,HB5⟩
     case measure=>simp [intOf];omega
  · obtain rfl:j=s.sk.length:=by omega
    have hge:¬((s.sk.length:Int)<(s.sk.length:Int)):=by omega
    have c14:=(HS.out.2.2.2.1.later HR.out).cell 14 rfl
    have d14:=(HS.out.2.2.2.2.later HR.out).cell 14 rfl
    go_wp2_with fail
    refine (HSm.out _ HR.out).mono ?_
    rintro e w1 ⟨rfl,hB1⟩
    go_wp2_with fail
    go_ret
    exact ⟨rfl,Below.on (Below.on HS.out.2.2.1 HR.out) hB1⟩
theorem told_alike (s:Seg) (k q:Hs) (w:World) (HA:zbc w k.ka s.sk∧zak w k.da s.da) (HB:zbc w q.ka s.sk∧zak w q.da s.da):Calls Try.prog 17 #[.agg #[.int .i64 s.sp,.int .i64 s.dp,.int .u32 s.sq,.int .u32 s.ak,.int .i64 s.fl,.int .i64 s.wn,.int .i64 s.ur,.int .i64 s.ms,.int .i64 s.sc,.bool s.so,.bool s.st,.int .u32 s.va,.int .u32 s.ec,.slice k.ka s.sk.length k.kc,.slice k.da s.da.length k.dc],.agg #[.int .i64 s.sp,.int .i64 s.dp,.int .u32 s.sq,.int .u32 s.ak,.int .i64 s.fl,.int .i64 s.wn,.int .i64 s.ur,.int .i64 s.ms,.int .i64 s.sc,.bool s.so,.bool s.st,.int .u32 s.va,.int .u32 s.ec,.slice q.ka s.sk.length q.kc,.slice q.da s.da.length q.dc]] w fun e w'=>e=.returned (.bool true)∧Below w.heap.size w w':=by
 obtain ⟨W0,hW0⟩:∃ W0,(w.alloc (.cells #[.int .i64 s.sp,.int .i64 s.dp,.int .u32 s.sq,.int .u32 s.ak,.int .i64 s.fl,.int .i64 s.wn,.int .i64 s.ur,.int .i64 s.ms,.int .i64 s.sc,.bool s.so,.bool s.st,.int .u32 s.va,.int .u32 s.ec,.slice k.ka s.sk.length k.kc,.slice k.da s.da.length k.dc] 34)).alloc (.cells #[.int .i64 s.sp,.int .i64 s.dp,.int .u32 s.sq,.int .u32 s.ak,.int .i64 s.fl,.int .i64 s.wn,.int .i64 s.ur,.int .i64 s.ms,.int .i64 s.sc,.bool s.so,.bool s.st,.int .u32 s.va,.int .u32 s.ec,.slice q.ka s.sk.length q.kc,.slice q.da s.da.length q.dc] 34)=W0:=⟨_,rfl⟩
 obtain ⟨hX,hG,hs0,b0⟩:=boxes2s w s k q hW0
 obtain ⟨c0,c1,c2,c3,c4,c5,c6,c7,c8,c9,c10,c11,c12,c13,c14⟩:=Box.c15 hX
 obtain ⟨d0,d1,d2,d3,d4,d5,d6,d7,d8,d9,d10,d11,d12,d13,d14⟩:=Box.c15 hG
 have k1:=sameSg_any s k q W0 ⟨HA.1.later b0,HA.2.later b0⟩ ⟨HB.1.later b0,HB.2.later b0⟩
 have HB0:Hid (Below w.heap.size w W0):=b0
 clear hX hG hs0 b0 HA HB
 go_enter Try.func17,Try.ntmps17
 go_wp2_with fail
 refine k1.mono ?_
 rintro e w1 ⟨rfl,hB1⟩
 go_wp2_with fail
 go_ret
 exact ⟨rfl,Below.on HB0.out hB1⟩
end Go.Proofs.Ytkigcdmlkmcdcaa
