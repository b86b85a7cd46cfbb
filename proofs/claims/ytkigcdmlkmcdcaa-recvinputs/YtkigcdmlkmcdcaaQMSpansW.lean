/- Input's contract in one, for a receiver that may be; and the document's comparison of bytes. -/
import Derived.Test.YtkigcdmlkmcdcaaQZ
import Derived.Test.YtkigcdmlkmcdcaaQGS
namespace Go.Proofs.Ytkigcdmlkmcdcaa
open Go.ChangeShapes Go.WideShapes Go.ChangeAt Go.RowKit
set_option linter.unusedVariables false
set_option linter.unusedSimpArgs false
theorem in_low {r:Pl.Rv} {g:Pl.Sg}:(Pl.inR r g).irs=r.irs∧(Pl.inR r g).own=r.own∧((Pl.inR r g).recent=r.recent∨(Pl.inR r g).recent=g.val):=by
 unfold Pl.inR
 split
 · exact ⟨rfl,rfl,.inl rfl⟩
 · split
   · exact ⟨rfl,rfl,.inl rfl⟩
   · have e1:(Pl.tellR (Pl.intoR r g)).irs=(Pl.stampR r g).irs:=rfl
     have e2:(Pl.tellR (Pl.intoR r g)).own=(Pl.stampR r g).own:=rfl
     have e3:(Pl.tellR (Pl.intoR r g)).recent=(Pl.stampR r g).recent:=rfl
     rw [e1,e2,e3]
     unfold Pl.stampR
     split
     · exact ⟨rfl,rfl,.inr rfl⟩
     · exact ⟨rfl,rfl,.inl rfl⟩
theorem RvOwn.atOk {w:World} {B:Nat} {R:Pl.Rv} {k:Hd} (hO:RvOwn w B R k) (hro:R.Ok) (h1:U32 R.recent) (h2:U32 R.irs) (h3:U32 R.own):RvAt w R k:=by
 refine hO.lies ?_ ?_ ?_ ?_ h1 ?_ h2 h3
 · have:=hro.n0;have:=hro.nf;simp only [Pl.farI] at *;unfold I64;omega
 · have:=hro.c1;have:=hro.cm;unfold I64;omega
 · have:=hro.s0;have:=hro.s14;unfold I64;omega
 · have:=hro.e0;have:=hro.er;have h2:R.reach=R.s.bot+R.cap:=rfl;have h3:R.s.bot=R.s.n-(R.s.u.length:Int):=rfl;have:=hro.nf;have:=hro.cm;simp only [Pl.farI] at *;unfold I64;omega
 · have:=hro.f1;have:=hro.ff;simp only [Pl.farI] at *;unfold I64;omega
theorem zgu (a b:Option Addr) (c d:Nat) (xs ys:List Int) (w:World) (ha:zak w a xs) (hb:zak w b ys) :
 Calls Try.prog 21 #[.slice a xs.length c,.slice b ys.length d] w fun e w'=>e=.returned (.bool (decide (xs=ys)))∧w'=w:=by
 have k1:=zhf a c xs w ha
 have k2:=zhf b d ys w hb
 have hi:=str_inj ha.2.1 hb.2.1
 clear ha hb
 go_enter Try.func21,Try.ntmps21
 go_wp2
 go_ret
 exact ⟨rfl,rfl⟩
end Go.Proofs.Ytkigcdmlkmcdcaa
namespace Go.Proofs.Ytkigcdmlkmcdcaa
open Go.ChangeShapes Go.WideShapes Go.ChangeAt Go.RowKit
set_option linter.unusedVariables false
set_option linter.unusedSimpArgs false
theorem boxes2r (w:World) (r:Pl.Rv) (k q:Hd) {W0:World} (hW0:(w.alloc (.cells #[.int .i64 r.s.n,.slice k.ua r.s.u.length k.uc,.slice k.la k.es.length k.lc,.int .i64 r.cap,.int .i64 r.shift,.int .i64 r.edge,.int .u32 r.recent,.bool r.stamps,.bool r.sacks,.int .i64 r.fin,.bool r.dn,.slice k.fa r.first.length k.fc,.int .u32 r.irs,.int .u32 r.own,.bool r.stamp] 27)).alloc (.cells #[.int .i64 r.s.n,.slice q.ua r.s.u.length q.uc,.slice q.la q.es.length q.lc,.int .i64 r.cap,.int .i64 r.shift,.int .i64 r.edge,.int .u32 r.recent,.bool r.stamps,.bool r.sacks,.int .i64 r.fin,.bool r.dn,.slice q.fa r.first.length q.fc,.int .u32 r.irs,.int .u32 r.own,.bool r.stamp] 27)=W0):Box W0 w.heap.size 27 (rvL r k)∧Box W0 (w.heap.size+1) 27 (rvL r q)∧W0.heap.size=w.heap.size+2∧Below w.heap.size w W0:=by
 rw [← hW0]
 have e:(w.alloc (.cells #[.int .i64 r.s.n,.slice k.ua r.s.u.length k.uc,.slice k.la k.es.length k.lc,.int .i64 r.cap,.int .i64 r.shift,.int .i64 r.edge,.int .u32 r.recent,.bool r.stamps,.bool r.sacks,.int .i64 r.fin,.bool r.dn,.slice k.fa r.first.length k.fc,.int .u32 r.irs,.int .u32 r.own,.bool r.stamp] 27)).heap.size=w.heap.size+1:=by simp
 refine ⟨(Box.new w 27 [.int .i64 r.s.n,.slice k.ua r.s.u.length k.uc,.slice k.la k.es.length k.lc,.int .i64 r.cap,.int .i64 r.shift,.int .i64 r.edge,.int .u32 r.recent,.bool r.stamps,.bool r.sacks,.int .i64 r.fin,.bool r.dn,.slice k.fa r.first.length k.fc,.int .u32 r.irs,.int .u32 r.own,.bool r.stamp]).alloc _,?_,by simp,zaa (zaa (Below.refl _ _) _) _⟩
 have:=Box.new (w.alloc (.cells #[.int .i64 r.s.n,.slice k.ua r.s.u.length k.uc,.slice k.la k.es.length k.lc,.int .i64 r.cap,.int .i64 r.shift,.int .i64 r.edge,.int .u32 r.recent,.bool r.stamps,.bool r.sacks,.int .i64 r.fin,.bool r.dn,.slice k.fa r.first.length k.fc,.int .u32 r.irs,.int .u32 r.own,.bool r.stamp] 27)) 27 [.int .i64 r.s.n,.slice q.ua r.s.u.length q.uc,.slice q.la q.es.length q.lc,.int .i64 r.cap,.int .i64 r.shift,.int .i64 r.edge,.int .u32 r.recent,.bool r.stamps,.bool r.sacks,.int .i64 r.fin,.bool r.dn,.slice q.fa r.first.length q.fc,.int .u32 r.irs,.int .u32 r.own,.bool r.stamp]
 rw [e] at this
 exact this
set_option maxRecDepth 100000 in
set_option maxHeartbeats 4000000 in
theorem sameRv_any (r:Pl.Rv) (k q:Hd) (w:World) (HA:RvAt w r k) (HB:RvAt w r q):Calls Try.prog 16 #[.agg #[.int .i64 r.s.n,.slice k.ua r.s.u.length k.uc,.slice k.la k.es.length k.lc,.int .i64 r.cap,.int .i64 r.shift,.int .i64 r.edge,.int .u32 r.recent,.bool r.stamps,.bool r.sacks,.int .i64 r.fin,.bool r.dn,.slice k.fa r.first.length k.fc,.int .u32 r.irs,.int .u32 r.own,.bool r.stamp],.agg #[.int .i64 r.s.n,.slice q.ua r.s.u.length q.uc,.slice q.la q.es.length q.lc,.int .i64 r.cap,.int .i64 r.shift,.int .i64 r.edge,.int .u32 r.recent,.bool r.stamps,.bool r.sacks,.int .i64 r.fin,.bool r.dn,.slice q.fa r.first.length q.fc,.int .u32 r.irs,.int .u32 r.own,.bool r.stamp]] w fun e w'=>e=.returned (.bool true)∧Below w.heap.size w w':=by
 obtain ⟨W0,hW0⟩:∃ W0,(w.alloc (.cells #[.int .i64 r.s.n,.slice k.ua r.s.u.length k.uc,.slice k.la k.es.length k.lc,.int .i64 r.cap,.int .i64 r.shift,.int .i64 r.edge,.int .u32 r.recent,.bool r.stamps,.bool r.sacks,.int .i64 r.fin,.bool r.dn,.slice k.fa r.first.length k.fc,.int .u32 r.irs,.int .u32 r.own,.bool r.stamp] 27)).alloc (.cells #[.int .i64 r.s.n,.slice q.ua r.s.u.length q.uc,.slice q.la q.es.length q.lc,.int .i64 r.cap,.int .i64 r.shift,.int .i64 r.edge,.int .u32 r.recent,.bool r.stamps,.bool r.sacks,.int .i64 r.fin,.bool r.dn,.slice q.fa r.first.length q.fc,.int .u32 r.irs,.int .u32 r.own,.bool r.stamp] 27)=W0:=⟨_,rfl⟩
 obtain ⟨hX,hG,hs0,b0⟩:=boxes2r w r k q hW0
 obtain ⟨c0,c1,c2,c3,c4,c5,c6,c7,c8,c9,c10,c11,c12,c13,c14⟩:=Box.c15 hX
 obtain ⟨d0,d1,d2,d3,d4,d5,d6,d7,d8,d9,d10,d11,d12,d13,d14⟩:=Box.c15 hG
 have hes:k.es.length=q.es.length:=by
  have e1:=congrArg List.length HA.les
  have e2:=congrArg List.length HB.les
  simp only [List.length_map] at e1 e2
  omega
 have HS:Hid (RvAt W0 r k∧RvAt W0 r q∧Below w.heap.size w W0∧Box W0 w.heap.size 27 (rvL r k)∧Box W0 (w.heap.size+1) 27 (rvL r q)∧k.es.length=q.es.length):=⟨HA.later b0,HB.later b0,b0,hX,hG,hes⟩
 have k1:Calls Try.prog 21 #[.slice k.ua r.s.u.length k.uc,.slice q.ua r.s.u.length q.uc] W0 fun e w'=>e=.returned (.bool true)∧w'=W0:=by
  refine (zgu k.ua q.ua k.uc q.uc r.s.u r.s.u W0 (HS.out.1.un.1) (HS.out.2.1.un.1)).mono ?_
  rintro e w' ⟨rfl,rfl⟩
  simp
 have g4:((k.es.length:Int) != (q.es.length:Int))=false:=by rw [hes];simp
 have g5:((k.es.length:Int)==(q.es.length:Int))=true:=by rw [hes];simp
 clear hX hG hs0 b0 HA HB hes
 go_enter Try.func16,Try.ntmps16
 go_wp2_with fail
 refine k1.mono ?_
 rintro e w' ⟨rfl,rfl⟩
 go_wp2_with fail
 clear c0 c1 c2 c3 c4 c5 c6 c7 c8 c9 c10 c11 c12 c13 c14 d0 d1 d2 d3 d4 d5 d6 d7 d8 d9 d10 d11 d12 d13 d14 g4 g5 k1 hW0
 have hb1:k.es.length≤140737488351232:=by have:=HS.out.1.late.reach;omega
 have hb2:r.first.length≤140737488351232:=by have:=HS.out.1.fst.reach;omega
 go_loopw [5] (fun vi wr=>∃ i:Nat,vi=.int .i64 (i:Int)∧i≤k.es.length∧Hid (Below w'.heap.size w' wr)) (fun vi _=>k.es.length-(intOf vi).toNat)
 case atStart=>exact ⟨0,rfl,Nat.zero_le _,Below.refl _ _⟩
 case round =>
  obtain ⟨i,rfl,hi,HR⟩:=hrel
  have c2:=(HS.out.2.2.2.1.later HR.out).cell 2 rfl
  by_cases hlt:i<k.es.length
  · have hlt':(i:Int)<(k.es.length:Int):=by omega
    have hlt2:(i:Int)<(q.es.length:Int):=by have:=HS.out.2.2.2.2.2;omega
    have d2:=(HS.out.2.2.2.2.1.later HR.out).cell 2 rfl
    have hAr:=HS.out.1.later HR.out
    have hBr:=HS.out.2.1.later HR.out
    obtain ⟨x,hx⟩:∃ x,k.es[i]? = some x:=⟨_,List.getElem?_eq_getElem hlt⟩
    obtain ⟨y,hy⟩:∃ y,q.es[i]? = some y:=⟨_,List.getElem?_eq_getElem (by have:=HS.out.2.2.2.2.2;omega)⟩
    have hpc:x.pc=y.pc:=by
     have e:=hAr.les.trans hBr.les.symm
     have e2:=congrArg (fun l=>l[i]?) e
     simp only [List.getElem?_map,hx,hy,Option.map_some,Option.some.injEq] at e2
     exact e2
    have hxf:x.f=y.f∧x.bs=y.bs:=by unfold En.pc at hpc;injection hpc with e1 e2;exact ⟨e1,e2⟩
    obtain ⟨b,o,ka,e1,e2⟩:=hAr.late.ents i x hx
    obtain ⟨b',o',qa,e1',e2'⟩:=hBr.late.ents i y hy
    have okx:=hAr.late.ok x (List.mem_of_getElem? hx)
    have oky:=hBr.late.ok y (List.mem_of_getElem? hy)
    rw [ka] at c2
    rw [qa] at d2
    rw [← hxf.1] at e1'
    rw [← hxf.2] at e2'
    have HSm:Hid (∀ W,Below wr.heap.size wr W→Calls Try.prog 21 #[.slice x.a x.bs.length x.c,.slice y.a x.bs.length y.c] W fun e w'=>e=.returned (.bool true)∧Below W.heap.size W w'):=fun W hW=>by
     refine (zgu x.a y.a x.c y.c x.bs x.bs W (okx.1.1.later hW) (by have:=oky.1.1;rw [← hxf.2] at this;exact this.later hW)).mono ?_
     rintro e w' ⟨rfl,rfl⟩
     simp only [decide_true]
     exact ⟨trivial,Below.refl _ _⟩
    obtain ⟨S,hS⟩:∃ S:World→Prop,S=fun W=>W.cell? ⟨w.heap.size,2,none⟩=some (.slice (some ⟨b,o,none⟩) k.es.length k.lc)∧W.cell? ⟨w.heap.size+1,2,none⟩=some (.slice (some ⟨b',o',none⟩) q.es.length q.lc)∧W.cell? ⟨b,o+i*2,none⟩=some (.int .i64 x.f)∧W.cell? ⟨b,o+i*2+1,none⟩=some (.slice x.a x.bs.length x.c)∧W.cell? ⟨b',o'+i*2,none⟩=some (.int .i64 x.f)∧W.cell? ⟨b',o'+i*2+1,none⟩=some (.slice y.a x.bs.length y.c):=⟨_,rfl⟩
    have HSK:Hid (∀ W,Below wr.heap.size wr W→S W):=fun W hW=>by
     rw [hS]
     exact ⟨(hW.cell (p:=⟨_,_,none⟩) (zac c2)).trans c2,(hW.cell (p:=⟨_,_,none⟩) (zac d2)).trans d2,(hW.cell (p:=⟨_,_,none⟩) (zac e1)).trans e1,(hW.cell (p:=⟨_,_,none⟩) (zac e2)).trans e2,(hW.cell (p:=⟨_,_,none⟩) (zac e1')).trans e1',(hW.cell (p:=⟨_,_,none⟩) (zac e2')).trans e2'⟩
    clear hAr hBr hpc hxf okx oky hx hy ka qa e1 e2 e1' e2' d2
    go_wp2_with fail
    as_aux_lemma =>
     obtain ⟨y0,y1,y2,y3,y4,y5,y6,y7,y8,y9,y10,y11,y12,y13,y14,y15,y16,y17,y18,y19,y20,y21,y22,y23,y24,y25,y27,y28⟩:(∀ {ps} (ev:EV),ev (.tmp 2)=.pointer (some ⟨w.heap.size,0,none⟩)→Yl Try.prog S ev ⟨some 120,.fieldAddr 27 (.tmp 2) 2,0,ps,#[],none⟩ ((.pointer (some ⟨w.heap.size,2,none⟩))))∧(∀ {ps} (ev:EV),ev (.tmp 120)=.pointer (some ⟨w.heap.size,2,none⟩)→Yl Try.prog S ev ⟨some 121,.load 23 (.tmp 120),23,ps,#[⟨0,.data⟩],none⟩ ((.slice (some ⟨b,o,none⟩) k.es.length k.lc)))∧(∀ {ps} (ev:EV),ev (.tmp 5)=.int .i64 (i:Int)→Yl Try.prog S ev ⟨some 122,.move (.tmp 5),3,ps,#[],none⟩ ((.int .i64 (i:Int))))∧(∀ {ps} (ev:EV),ev (.tmp 121)=.slice (some ⟨b,o,none⟩) k.es.length k.lc→ev (.tmp 122)=.int .i64 (i:Int)→Yl Try.prog S ev ⟨some 123,.indexAddr 23 (.tmp 121) (.tmp 122),0,ps,#[⟨1,.data⟩,⟨2,.data⟩],none⟩ ((.pointer (some ⟨b,o+i*2,none⟩))))∧(∀ {ps} (ev:EV),ev (.tmp 123)=.pointer (some ⟨b,o+i*2,none⟩)→Yl Try.prog S ev ⟨some 124,.fieldAddr 74 (.tmp 123) 0,0,ps,#[⟨3,.data⟩],none⟩ ((.pointer (some ⟨b,o+i*2,none⟩))))∧(∀ {ps} (ev:EV),ev (.tmp 124)=.pointer (some ⟨b,o+i*2,none⟩)→Yl Try.prog S ev ⟨some 125,.load 3 (.tmp 124),3,ps,#[⟨4,.data⟩],none⟩ ((.int .i64 x.f)))∧(∀ {ps} (ev:EV),ev (.tmp 3)=.pointer (some ⟨w.heap.size+1,0,none⟩)→Yl Try.prog S ev ⟨some 126,.fieldAddr 27 (.tmp 3) 2,0,ps,#[],none⟩ ((.pointer (some ⟨w.heap.size+1,2,none⟩))))∧(∀ {ps} (ev:EV),ev (.tmp 126)=.pointer (some ⟨w.heap.size+1,2,none⟩)→Yl Try.prog S ev ⟨some 127,.load 23 (.tmp 126),23,ps,#[⟨6,.data⟩],none⟩ ((.slice (some ⟨b',o',none⟩) q.es.length q.lc)))∧(∀ {ps} (ev:EV),ev (.tmp 5)=.int .i64 (i:Int)→Yl Try.prog S ev ⟨some 128,.move (.tmp 5),3,ps,#[],none⟩ ((.int .i64 (i:Int))))∧(∀ {ps} (ev:EV),ev (.tmp 127)=.slice (some ⟨b',o',none⟩) q.es.length q.lc→ev (.tmp 128)=.int .i64 (i:Int)→Yl Try.prog S ev ⟨some 129,.indexAddr 23 (.tmp 127) (.tmp 128),0,ps,#[⟨7,.data⟩,⟨8,.data⟩],none⟩ ((.pointer (some ⟨b',o'+i*2,none⟩))))∧(∀ {ps} (ev:EV),ev (.tmp 129)=.pointer (some ⟨b',o'+i*2,none⟩)→Yl Try.prog S ev ⟨some 130,.fieldAddr 74 (.tmp 129) 0,0,ps,#[⟨9,.data⟩],none⟩ ((.pointer (some ⟨b',o'+i*2,none⟩))))∧(∀ {ps} (ev:EV),ev (.tmp 130)=.pointer (some ⟨b',o'+i*2,none⟩)→Yl Try.prog S ev ⟨some 131,.load 3 (.tmp 130),3,ps,#[⟨10,.data⟩],none⟩ ((.int .i64 x.f)))∧(∀ {ps} (ev:EV),ev (.tmp 125)=.int .i64 x.f→ev (.tmp 131)=.int .i64 x.f→Yl Try.prog S ev ⟨some 132,.binOp .neq 3 (.tmp 125) (.tmp 131) 3,4,ps,#[⟨5,.data⟩,⟨11,.data⟩],none⟩ ((.bool false)))∧(∀ {ps} (ev:EV),ev (.tmp 132)=.bool false→Yl Try.prog S ev ⟨some 133,.move (.tmp 132),4,ps,#[⟨12,.data⟩],none⟩ ((.bool false)))∧(∀ {ps} (ev:EV),ev (.tmp 2)=.pointer (some ⟨w.heap.size,0,none⟩)→Yl Try.prog S ev ⟨some 134,.fieldAddr 27 (.tmp 2) 2,0,ps,#[⟨13,.guard⟩],some (13,false)⟩ ((.pointer (some ⟨w.heap.size,2,none⟩))))∧(∀ {ps} (ev:EV),ev (.tmp 134)=.pointer (some ⟨w.heap.size,2,none⟩)→Yl Try.prog S ev ⟨some 135,.load 23 (.tmp 134),23,ps,#[⟨14,.data⟩,⟨13,.guard⟩],some (13,false)⟩ ((.slice (some ⟨b,o,none⟩) k.es.length k.lc)))∧(∀ {ps} (ev:EV),ev (.tmp 5)=.int .i64 (i:Int)→Yl Try.prog S ev ⟨some 136,.move (.tmp 5),3,ps,#[⟨13,.guard⟩],some (13,false)⟩ ((.int .i64 (i:Int))))∧(∀ {ps} (ev:EV),ev (.tmp 135)=.slice (some ⟨b,o,none⟩) k.es.length k.lc→ev (.tmp 136)=.int .i64 (i:Int)→Yl Try.prog S ev ⟨some 137,.indexAddr 23 (.tmp 135) (.tmp 136),0,ps,#[⟨15,.data⟩,⟨16,.data⟩,⟨13,.guard⟩],some (13,false)⟩ ((.pointer (some ⟨b,o+i*2,none⟩))))∧(∀ {ps} (ev:EV),ev (.tmp 137)=.pointer (some ⟨b,o+i*2,none⟩)→Yl Try.prog S ev ⟨some 138,.fieldAddr 74 (.tmp 137) 1,0,ps,#[⟨17,.data⟩,⟨13,.guard⟩],some (13,false)⟩ ((.pointer (some ⟨b,o+i*2+1,none⟩))))∧(∀ {ps} (ev:EV),ev (.tmp 138)=.pointer (some ⟨b,o+i*2+1,none⟩)→Yl Try.prog S ev ⟨some 139,.load 22 (.tmp 138),22,ps,#[⟨18,.data⟩,⟨13,.guard⟩],some (13,false)⟩ ((.slice x.a x.bs.length x.c)))∧(∀ {ps} (ev:EV),ev (.tmp 3)=.pointer (some ⟨w.heap.size+1,0,none⟩)→Yl Try.prog S ev ⟨some 140,.fieldAddr 27 (.tmp 3) 2,0,ps,#[⟨13,.guard⟩],some (13,false)⟩ ((.pointer (some ⟨w.heap.size+1,2,none⟩))))∧(∀ {ps} (ev:EV),ev (.tmp 140)=.pointer (some ⟨w.heap.size+1,2,none⟩)→Yl Try.prog S ev ⟨some 141,.load 23 (.tmp 140),23,ps,#[⟨20,.data⟩,⟨13,.guard⟩],some (13,false)⟩ ((.slice (some ⟨b',o',none⟩) q.es.length q.lc)))∧(∀ {ps} (ev:EV),ev (.tmp 5)=.int .i64 (i:Int)→Yl Try.prog S ev ⟨some 142,.move (.tmp 5),3,ps,#[⟨13,.guard⟩],some (13,false)⟩ ((.int .i64 (i:Int))))∧(∀ {ps} (ev:EV),ev (.tmp 141)=.slice (some ⟨b',o',none⟩) q.es.length q.lc→ev (.tmp 142)=.int .i64 (i:Int)→Yl Try.prog S ev ⟨some 143,.indexAddr 23 (.tmp 141) (.tmp 142),0,ps,#[⟨21,.data⟩,⟨22,.data⟩,⟨13,.guard⟩],some (13,false)⟩ ((.pointer (some ⟨b',o'+i*2,none⟩))))∧(∀ {ps} (ev:EV),ev (.tmp 143)=.pointer (some ⟨b',o'+i*2,none⟩)→Yl Try.prog S ev ⟨some 144,.fieldAddr 74 (.tmp 143) 1,0,ps,#[⟨23,.data⟩,⟨13,.guard⟩],some (13,false)⟩ ((.pointer (some ⟨b',o'+i*2+1,none⟩))))∧(∀ {ps} (ev:EV),ev (.tmp 144)=.pointer (some ⟨b',o'+i*2+1,none⟩)→Yl Try.prog S ev ⟨some 145,.load 22 (.tmp 144),22,ps,#[⟨24,.data⟩,⟨13,.guard⟩],some (13,false)⟩ ((.slice y.a x.bs.length y.c)))∧(∀ {ps} (ev:EV),ev (.tmp 146)=.bool true→Yl Try.prog S ev ⟨some 147,.unOp .not 4 (.tmp 146),4,ps,#[⟨26,.data⟩,⟨13,.guard⟩],some (13,false)⟩ ((.bool false)))∧(∀ {ps} (ev:EV),ev (.tmp 133)=.bool false→ev (.const (Go.Value.bool true))=(Go.Value.bool true)→ev (.tmp 147)=.bool false→Yl Try.prog S ev ⟨some 148,.pick (.tmp 133) (.const (.bool true)) (.tmp 147),4,ps,#[⟨13,.data⟩,⟨27,.data⟩],none⟩ ((.bool false))):=by
      refine ⟨?_,?_,?_,?_,?_,?_,?_,?_,?_,?_,?_,?_,?_,?_,?_,?_,?_,?_,?_,?_,?_,?_,?_,?_,?_,?_,?_,?_⟩<;>(intros;intro W hSw;rw [hS] at hSw;(try dsimp only at hSw);go_simp<;>with_reducible rfl)
     refine zb4 (fun W'=>S W'∧Below wr.heap.size wr W') (by kernel_rfl) (by kernel_rfl) ?hC ?_
     case hC=>exact ⟨HSK.out _ (Below.drew (Below.refl _ _)),Below.drew (Below.refl _ _)⟩
     refine zab (by kernel_rfl) (fun W hW=>y0 _ rfl W hW.1) ?_
     try simp only [Act.put,qA,qZ,qS]
     refine zab (by kernel_rfl) (fun W hW=>y1 _ rfl W hW.1) ?_
     try simp only [Act.put,qA,qZ,qS]
     refine zab (by kernel_rfl) (fun W hW=>y2 _ rfl W hW.1) ?_
     try simp only [Act.put,qA,qZ,qS]
     refine zab (by kernel_rfl) (fun W hW=>y3 _ rfl rfl W hW.1) ?_
     try simp only [Act.put,qA,qZ,qS]
     refine zab (by kernel_rfl) (fun W hW=>y4 _ rfl W hW.1) ?_
     try simp only [Act.put,qA,qZ,qS]
     refine zab (by kernel_rfl) (fun W hW=>y5 _ rfl W hW.1) ?_
     try simp only [Act.put,qA,qZ,qS]
     refine zab (by kernel_rfl) (fun W hW=>y6 _ rfl W hW.1) ?_
     try simp only [Act.put,qA,qZ,qS]
     refine zab (by kernel_rfl) (fun W hW=>y7 _ rfl W hW.1) ?_
     try simp only [Act.put,qA,qZ,qS]
     refine zab (by kernel_rfl) (fun W hW=>y8 _ rfl W hW.1) ?_
     try simp only [Act.put,qA,qZ,qS]
     refine zab (by kernel_rfl) (fun W hW=>y9 _ rfl rfl W hW.1) ?_
     try simp only [Act.put,qA,qZ,qS]
     refine zab (by kernel_rfl) (fun W hW=>y10 _ rfl W hW.1) ?_
     try simp only [Act.put,qA,qZ,qS]
     refine zab (by kernel_rfl) (fun W hW=>y11 _ rfl W hW.1) ?_
     try simp only [Act.put,qA,qZ,qS]
     refine zab (by kernel_rfl) (fun W hW=>y12 _ rfl rfl W hW.1) ?_
     try simp only [Act.put,qA,qZ,qS]
     refine zab (by kernel_rfl) (fun W hW=>y13 _ rfl W hW.1) ?_
     try simp only [Act.put,qA,qZ,qS]
     refine zab (by kernel_rfl) (fun W hW=>y14 _ rfl W hW.1) ?_
     try simp only [Act.put,qA,qZ,qS]
     refine zab (by kernel_rfl) (fun W hW=>y15 _ rfl W hW.1) ?_
     try simp only [Act.put,qA,qZ,qS]
     refine zab (by kernel_rfl) (fun W hW=>y16 _ rfl W hW.1) ?_
     try simp only [Act.put,qA,qZ,qS]
     refine zab (by kernel_rfl) (fun W hW=>y17 _ rfl rfl W hW.1) ?_
     try simp only [Act.put,qA,qZ,qS]
     refine zab (by kernel_rfl) (fun W hW=>y18 _ rfl W hW.1) ?_
     try simp only [Act.put,qA,qZ,qS]
     refine zab (by kernel_rfl) (fun W hW=>y19 _ rfl W hW.1) ?_
     try simp only [Act.put,qA,qZ,qS]
     refine zab (by kernel_rfl) (fun W hW=>y20 _ rfl W hW.1) ?_
     try simp only [Act.put,qA,qZ,qS]
     refine zab (by kernel_rfl) (fun W hW=>y21 _ rfl W hW.1) ?_
     try simp only [Act.put,qA,qZ,qS]
     refine zab (by kernel_rfl) (fun W hW=>y22 _ rfl W hW.1) ?_
     try simp only [Act.put,qA,qZ,qS]
     refine zab (by kernel_rfl) (fun W hW=>y23 _ rfl rfl W hW.1) ?_
     try simp only [Act.put,qA,qZ,qS]
     refine zab (by kernel_rfl) (fun W hW=>y24 _ rfl W hW.1) ?_
     try simp only [Act.put,qA,qZ,qS]
     refine zab (by kernel_rfl) (fun W hW=>y25 _ rfl W hW.1) ?_
     try simp only [Act.put,qA,qZ,qS]
     refine zg0 (v:=.bool true) (f:=21) (args:=#[.slice x.a x.bs.length x.c,.slice y.a x.bs.length y.c]) (by kernel_rfl) ?hy26q1 ?hc26q1 ?rest26q1
     case hy26q1=>(intro w hSw;(try dsimp only at hSw);first|(go_simp;done)|(go_simp;with_reducible rfl))
     case hc26q1=>(intro w hSw;refine (HSm.out w hSw.2).mono ?_;rintro e w1 ⟨rfl,hB⟩;exact ⟨rfl,HSK.out _ (Below.on hSw.2 hB),Below.on hSw.2 hB⟩)
     try simp only [Act.put,qA,qZ,qS]
     refine zab (by kernel_rfl) (fun W hW=>y27 _ rfl W hW.1) ?_
     try simp only [Act.put,qA,qZ,qS]
     refine zab (by kernel_rfl) (fun W hW=>y28 _ rfl rfl rfl W hW.1) ?_
     try simp only [Act.put,qA,qZ,qS]
     refine zb2 ?_
     intro W5 hC5
     have HB5:Hid (Below w'.heap.size w' W5):=Below.on HR.out hC5.2
     clear y0 y1 y2 y3 y4 y5 y6 y7 y8 y9 y10 y11 y12 y13 y14 y15 y16 y17 y18 y19 y20 y21 y22 y23 y24 y25 y27 y28 hC5 HSm HSK HR c2
     go_wp2_with fail
     go_roundw
     case rel=>exact ⟨i+1,by go_num,by omega,HB5⟩
     case measure=>simp [intOf];omega
  · obtain rfl:i=k.es.length:=by omega
    have hge:¬((k.es.length:Int)<(k.es.length:Int)):=by omega
    go_wp2_with fail
    clear c2 hge hi
    go_loopw [6] (fun vj wq=>∃ j:Nat,vj=.int .i64 (j:Int)∧j≤r.first.length∧Hid (Below w'.heap.size w' wq)) (fun vj _=>r.first.length-(intOf vj).toNat)
    case atStart=>exact ⟨0,rfl,Nat.zero_le _,HR⟩
    case round =>
     clear HR
     obtain ⟨j,rfl,hj,HR⟩:=hrel
     have c2:=(HS.out.2.2.2.1.later HR.out).cell 11 rfl
     by_cases hlt:j<r.first.length
     · have hlt':(j:Int)<(r.first.length:Int):=by omega
       have d2:=(HS.out.2.2.2.2.1.later HR.out).cell 11 rfl
       obtain ⟨b,o,ka,e1,e2⟩:=(HS.out.1.later HR.out).fst.tims.2 j hlt
       obtain ⟨b',o',qa,e1',e2'⟩:=(HS.out.2.1.later HR.out).fst.tims.2 j hlt
       rw [ka] at c2
       rw [qa] at d2
       obtain ⟨f,hf⟩:∃ f,(r.first[j]?.getD (0,0)).1=f:=⟨_,rfl⟩
       obtain ⟨t,ht⟩:∃ t,(r.first[j]?.getD (0,0)).2=t:=⟨_,rfl⟩
       rw [hf] at e1 e1'
       rw [ht] at e2 e2'
       obtain ⟨S,hS⟩:∃ S:World→Prop,S=fun W=>W.cell? ⟨w.heap.size,11,none⟩=some (.slice (some ⟨b,o,none⟩) r.first.length k.fc)∧W.cell? ⟨w.heap.size+1,11,none⟩=some (.slice (some ⟨b',o',none⟩) r.first.length q.fc)∧W.cell? ⟨b,o+j*2,none⟩=some (.int .i64 f)∧W.cell? ⟨b,o+j*2+1,none⟩=some (.int .i64 t)∧W.cell? ⟨b',o'+j*2,none⟩=some (.int .i64 f)∧W.cell? ⟨b',o'+j*2+1,none⟩=some (.int .i64 t):=⟨_,rfl⟩
       have HSK:Hid (∀ W,Below wr.heap.size wr W→S W):=fun W hW=>by
        rw [hS]
        exact ⟨(hW.cell (p:=⟨_,_,none⟩) (zac c2)).trans c2,(hW.cell (p:=⟨_,_,none⟩) (zac d2)).trans d2,(hW.cell (p:=⟨_,_,none⟩) (zac e1)).trans e1,(hW.cell (p:=⟨_,_,none⟩) (zac e2)).trans e2,(hW.cell (p:=⟨_,_,none⟩) (zac e1')).trans e1',(hW.cell (p:=⟨_,_,none⟩) (zac e2')).trans e2'⟩
       clear ka qa e1 e2 e1' e2' d2 hf ht
       go_wp2_with fail
       as_aux_lemma =>
        obtain ⟨y0,y1,y2,y3,y4,y5,y6,y7,y8,y9,y10⟩:(∀ {ps} (ev:EV),ev (.tmp 2)=.pointer (some ⟨w.heap.size,0,none⟩)→Yl Try.prog S ev ⟨some 156,.fieldAddr 27 (.tmp 2) 11,0,ps,#[],none⟩ ((.pointer (some ⟨w.heap.size,11,none⟩))))∧(∀ {ps} (ev:EV),ev (.tmp 156)=.pointer (some ⟨w.heap.size,11,none⟩)→Yl Try.prog S ev ⟨some 157,.load 25 (.tmp 156),25,ps,#[⟨0,.data⟩],none⟩ ((.slice (some ⟨b,o,none⟩) r.first.length k.fc)))∧(∀ {ps} (ev:EV),ev (.tmp 6)=.int .i64 (j:Int)→Yl Try.prog S ev ⟨some 158,.move (.tmp 6),3,ps,#[],none⟩ ((.int .i64 (j:Int))))∧(∀ {ps} (ev:EV),ev (.tmp 157)=.slice (some ⟨b,o,none⟩) r.first.length k.fc→ev (.tmp 158)=.int .i64 (j:Int)→Yl Try.prog S ev ⟨some 159,.indexAddr 25 (.tmp 157) (.tmp 158),0,ps,#[⟨1,.data⟩,⟨2,.data⟩],none⟩ ((.pointer (some ⟨b,o+j*2,none⟩))))∧(∀ {ps} (ev:EV),ev (.tmp 159)=.pointer (some ⟨b,o+j*2,none⟩)→Yl Try.prog S ev ⟨some 160,.load 78 (.tmp 159),78,ps,#[⟨3,.data⟩],none⟩ ((.agg #[.int .i64 f,.int .i64 t])))∧(∀ {ps} (ev:EV),ev (.tmp 3)=.pointer (some ⟨w.heap.size+1,0,none⟩)→Yl Try.prog S ev ⟨some 161,.fieldAddr 27 (.tmp 3) 11,0,ps,#[],none⟩ ((.pointer (some ⟨w.heap.size+1,11,none⟩))))∧(∀ {ps} (ev:EV),ev (.tmp 161)=.pointer (some ⟨w.heap.size+1,11,none⟩)→Yl Try.prog S ev ⟨some 162,.load 25 (.tmp 161),25,ps,#[⟨5,.data⟩],none⟩ ((.slice (some ⟨b',o',none⟩) r.first.length q.fc)))∧(∀ {ps} (ev:EV),ev (.tmp 6)=.int .i64 (j:Int)→Yl Try.prog S ev ⟨some 163,.move (.tmp 6),3,ps,#[],none⟩ ((.int .i64 (j:Int))))∧(∀ {ps} (ev:EV),ev (.tmp 162)=.slice (some ⟨b',o',none⟩) r.first.length q.fc→ev (.tmp 163)=.int .i64 (j:Int)→Yl Try.prog S ev ⟨some 164,.indexAddr 25 (.tmp 162) (.tmp 163),0,ps,#[⟨6,.data⟩,⟨7,.data⟩],none⟩ ((.pointer (some ⟨b',o'+j*2,none⟩))))∧(∀ {ps} (ev:EV),ev (.tmp 164)=.pointer (some ⟨b',o'+j*2,none⟩)→Yl Try.prog S ev ⟨some 165,.load 78 (.tmp 164),78,ps,#[⟨8,.data⟩],none⟩ ((.agg #[.int .i64 f,.int .i64 t])))∧(∀ {ps} (ev:EV),ev (.tmp 160)=.agg #[.int .i64 f,.int .i64 t]→ev (.tmp 165)=.agg #[.int .i64 f,.int .i64 t]→Yl Try.prog S ev ⟨some 166,.binOp .neq 78 (.tmp 160) (.tmp 165) 78,4,ps,#[⟨4,.data⟩,⟨9,.data⟩],none⟩ ((.bool false))):=by
         refine ⟨?_,?_,?_,?_,?_,?_,?_,?_,?_,?_,?_⟩<;>(intros;intro W hSw;rw [hS] at hSw;(try dsimp only at hSw);go_simp<;>with_reducible rfl)
        refine zb4 (fun W'=>S W'∧Below wr.heap.size wr W') (by kernel_rfl) (by kernel_rfl) ?hC ?_
        case hC=>exact ⟨HSK.out _ (Below.drew (Below.refl _ _)),Below.drew (Below.refl _ _)⟩
        refine zab (by kernel_rfl) (fun W hW=>y0 _ rfl W hW.1) ?_
        try simp only [Act.put,qA,qZ,qS]
        refine zab (by kernel_rfl) (fun W hW=>y1 _ rfl W hW.1) ?_
        try simp only [Act.put,qA,qZ,qS]
        refine zab (by kernel_rfl) (fun W hW=>y2 _ rfl W hW.1) ?_
        try simp only [Act.put,qA,qZ,qS]
        refine zab (by kernel_rfl) (fun W hW=>y3 _ rfl rfl W hW.1) ?_
        try simp only [Act.put,qA,qZ,qS]
        refine zab (by kernel_rfl) (fun W hW=>y4 _ rfl W hW.1) ?_
        try simp only [Act.put,qA,qZ,qS]
        refine zab (by kernel_rfl) (fun W hW=>y5 _ rfl W hW.1) ?_
        try simp only [Act.put,qA,qZ,qS]
        refine zab (by kernel_rfl) (fun W hW=>y6 _ rfl W hW.1) ?_
        try simp only [Act.put,qA,qZ,qS]
        refine zab (by kernel_rfl) (fun W hW=>y7 _ rfl W hW.1) ?_
        try simp only [Act.put,qA,qZ,qS]
        refine zab (by kernel_rfl) (fun W hW=>y8 _ rfl rfl W hW.1) ?_
        try simp only [Act.put,qA,qZ,qS]
        refine zab (by kernel_rfl) (fun W hW=>y9 _ rfl W hW.1) ?_
        try simp only [Act.put,qA,qZ,qS]
        refine zab (by kernel_rfl) (fun W hW=>y10 _ rfl rfl W hW.1) ?_
        try simp only [Act.put,qA,qZ,qS]
        refine zb2 ?_
        intro W5 hC5
        have HB5:Hid (Below w'.heap.size w' W5):=Below.on HR.out hC5.2
        clear y0 y1 y2 y3 y4 y5 y6 y7 y8 y9 y10 hC5 HSK HR c2
        go_wp2_with fail
        go_roundw
        case rel=>exact ⟨j+1,by go_num,by omega,HB5⟩
        case measure=>simp [intOf];omega
     · obtain rfl:j=r.first.length:=by omega
       have hge:¬((r.first.length:Int)<(r.first.length:Int)):=by omega
       go_wp2_with fail
       go_ret
       exact ⟨rfl,Below.on HS.out.2.2.1 HR.out⟩
end Go.Proofs.Ytkigcdmlkmcdcaa
namespace Go.Proofs.Ytkigcdmlkmcdcaa
open Go.ChangeShapes Go.WideShapes Go.ChangeAt Go.RowKit
set_option linter.unusedVariables false
set_option linter.unusedSimpArgs false
theorem refwin_nums {r:Pl.Rv} (hl:lowB r):∃ U D:Int,wrap64 ((2:Int) ^ r.shift.toNat)=U∧1≤U∧(wrap64 ((r.cap-(r.s.u.length:Int)).tdiv U)=D∧(r.cap-(r.s.u.length:Int)) / U=D)∧(D≤65535→wrap64 (D*U)=r.window)∧(¬D≤65535→wrap64 (65535*U)=r.window):=by
 obtain ⟨h1,h2,h3,h4,h5⟩:=hl
 have hp:=Pl.two_pos r.shift.toNat
 have hq:(2:Int) ^ r.shift.toNat≤16384:=by
  obtain ⟨k,hk⟩:∃ k:Nat,r.shift.toNat=k:=⟨_,rfl⟩
  have hk14:k≤14:=by omega
  rw [hk]
  have:∀ j,j≤14→(2:Int) ^ j≤16384:=by decide
  exact this k hk14
 have hw:=Pl.window_bd h4
 have hwd:r.window=Pl.minJ ((r.cap-(r.s.u.length:Int)) / (2:Int) ^ r.shift.toNat) 65535*(2:Int) ^ r.shift.toNat:=rfl
 obtain ⟨U,hU⟩:∃ U,(2:Int) ^ r.shift.toNat=U:=⟨_,rfl⟩
 rw [hU] at hp hq hwd
 obtain ⟨a,ha⟩:∃ a,r.cap-(r.s.u.length:Int)=a:=⟨_,rfl⟩
 rw [ha] at hw hwd
 have ha0:0≤a∧a≤1073741824:=by omega
 have hd0:0≤a / U:=Int.ediv_nonneg ha0.1 (by omega)
 have hd1:a / U≤a:=Int.ediv_le_self _ ha0.1
 have e1:a.tdiv U=a / U:=Int.tdiv_eq_ediv_of_nonneg ha0.1
 refine ⟨U,a / U,by rw [hU];exact zbg (by omega) (by omega),hp,⟨by rw [ha,e1];exact zbg (by omega) (by omega),by rw [ha]⟩,fun h=>?_,fun h=>?_⟩
 · have:Pl.minJ (a / U) 65535=a / U:=by unfold Pl.minJ;rw [if_neg (by omega)]
   rw [this] at hwd
   rw [← hwd];exact zbg (by omega) (by omega)
 · have:Pl.minJ (a / U) 65535=65535:=by unfold Pl.minJ;rw [if_pos (by omega)]
   rw [this] at hwd
   rw [← hwd];exact zbg (by omega) (by omega)
theorem zdr (r:Pl.Rv) (h:Hd) (w:World) (hl:lowB r) :
 Calls Try.prog 48 #[.agg #[.int .i64 r.s.n,.slice h.ua r.s.u.length h.uc,.slice h.la h.es.length h.lc,.int .i64 r.cap,.int .i64 r.shift,.int .i64 r.edge,.int .u32 r.recent,.bool r.stamps,.bool r.sacks,.int .i64 r.fin,.bool r.dn,.slice h.fa r.first.length h.fc,.int .u32 r.irs,.int .u32 r.own,.bool r.stamp]] w fun e w'=>e=.returned (.int .i64 r.window)∧Below w.heap.size w w':=by
 obtain ⟨U,D,e1,e2,⟨e3,e7⟩,e4,e5⟩:=refwin_nums hl
 obtain ⟨h1,h2,h3,h4,h5⟩:=hl
 obtain ⟨wn,hwn⟩:∃ wn,r.window=wn:=⟨_,rfl⟩
 rw [hwn] at e4 e5 ⊢
 have hU0:¬U=0:=by omega
 by_cases hD:D≤65535
 · have e6:=e4 hD
   clear e4 e5 hwn
   go_enter Try.func48,Try.ntmps48
   go_wp2_with fail
   go_ret
   exact ⟨by first|rfl|exact za9 e6,(Below.refl _ _).alloc (Nat.le_refl _) _⟩
 · have e6:=e5 hD
   clear e4 e5 hwn
   go_enter Try.func48,Try.ntmps48
   go_wp2_with fail
   go_ret
   exact ⟨by first|rfl|exact za9 e6,(Below.refl _ _).alloc (Nat.le_refl _) _⟩
end Go.Proofs.Ytkigcdmlkmcdcaa
namespace Go.Proofs.Ytkigcdmlkmcdcaa
open Go.ChangeShapes Go.WideShapes Go.ChangeAt Go.RowKit
set_option linter.unusedVariables false
set_option linter.unusedSimpArgs false
theorem zea (r:Pl.Rv) (h:Hd) (w:World) (hl:lowB r) :
 Calls Try.prog 45 #[.agg #[.int .i64 r.s.n,.slice h.ua r.s.u.length h.uc,.slice h.la h.es.length h.lc,.int .i64 r.cap,.int .i64 r.shift,.int .i64 r.edge,.int .u32 r.recent,.bool r.stamps,.bool r.sacks,.int .i64 r.fin,.bool r.dn,.slice h.fa r.first.length h.fc,.int .u32 r.irs,.int .u32 r.own,.bool r.stamp]] w fun e w'=>e=.returned (.int .i64 r.reach)∧Below w.heap.size w w':=by
 obtain ⟨h1,h2,h3,h4,h5⟩:=hl
 go_enter Try.func45,Try.ntmps45
 go_wp2
 go_ret
 exact ⟨za9 (by unfold Pl.Rv.reach Pl.Rx.bot;omega),(Below.refl _ _).alloc (Nat.le_refl _) _⟩
theorem zcs (r:Pl.Rv) (h:Hd) (w:World) (hl:lowB r) :
 Calls Try.prog 41 #[.agg #[.int .i64 r.s.n,.slice h.ua r.s.u.length h.uc,.slice h.la h.es.length h.lc,.int .i64 r.cap,.int .i64 r.shift,.int .i64 r.edge,.int .u32 r.recent,.bool r.stamps,.bool r.sacks,.int .i64 r.fin,.bool r.dn,.slice h.fa r.first.length h.fc,.int .u32 r.irs,.int .u32 r.own,.bool r.stamp]] w fun e w'=>e=.returned (.int .i64 r.limit)∧Below w.heap.size w w':=by
 have c:=fun W=>zea r h W hl
 obtain ⟨R,hR⟩:∃ R,r.reach=R:=⟨_,rfl⟩
 have HL:Hid (r.limit=Pl.minJ R 562949953421312):=by unfold Hid Pl.Rv.limit;rw [hR];rfl
 rw [hR] at c
 clear hR hl
 go_enter Try.func41,Try.ntmps41
 go_wp2_with (go_at_call 45;refine (c _).mono ?_;rintro e w1 ⟨rfl,hB⟩)
 all_goals go_ret
 all_goals (refine ⟨za9 ?_,((Below.refl _ w).alloc (Nat.le_refl _) _).trans (hB.mono (by simp))⟩;rw [HL.out];unfold Pl.minJ;first|rw [if_pos (by assumption)]|rw [if_neg (by omega)])
set_option maxRecDepth 100000 in
set_option maxHeartbeats 4000000 in
theorem zfn (x:Tm) (a:Option Addr) (c:Nat) (l:List Tm) (w:World) (H:za0 w a l) (n:Nat) (hn:l.length=n) (b:Bool) (hb:decide (x∈l)=b) :
 Calls Try.prog 47 #[.agg #[.int .i64 x.1,.int .i64 x.2],.slice a n c] w fun e w'=>e=.returned (.bool b)∧Below w.heap.size w w':=by
 obtain ⟨W0,hW0⟩:∃ W0,w.alloc (.cells #[.int .i64 x.1,.int .i64 x.2] 78)=W0:=⟨_,rfl⟩
 have hX:Box W0 w.heap.size 78 [.int .i64 x.1,.int .i64 x.2]:=by rw [← hW0];exact Box.new w 78 [.int .i64 x.1,.int .i64 x.2]
 have b0:Below w.heap.size w W0:=by rw [← hW0];exact zaa (Below.refl _ _) _
 have hb1:n≤9223372036854775807:=by have:=H.1;unfold maxLen at this;omega
 have HS:Hid (za0 W0 a l∧Below w.heap.size w W0∧Box W0 w.heap.size 78 [.int .i64 x.1,.int .i64 x.2]∧l.length=n∧decide (x∈l)=b):=⟨H.later b0,b0,hX,hn,hb⟩
 obtain ⟨x1,hx1⟩:∃ y,x.1=y:=⟨_,rfl⟩
 obtain ⟨x2,hx2⟩:∃ y,x.2=y:=⟨_,rfl⟩
 have HXX:Hid (x.1=x1∧x.2=x2):=⟨hx1,hx2⟩
 rw [hx1,hx2] at HS hW0 ⊢
 clear hX b0 hn hb H hx1 hx2
 go_enter Try.func47,Try.ntmps47
 go_wp2_with fail
 try rw [hW0]
 clear hW0
 go_loopw [5] (fun vj wr=>∃ j:Nat,vj=.int .i64 (j:Int)∧j≤n∧Hid (Below W0.heap.size W0 wr∧∀ i,i<j→l[i]? ≠ some x)) (fun vj _=>n-(intOf vj).toNat)
 case atStart=>exact ⟨0,rfl,Nat.zero_le _,Below.refl _ _,fun i hi=>by omega⟩
 case round =>
  obtain ⟨j,rfl,hj,HR⟩:=hrel
  by_cases hlt:j<n
  · have hlt':(j:Int)<(n:Int):=by omega
    obtain ⟨bb,o,ka,e1,e2⟩:=(HS.out.1.later HR.out.1).2 j (by rw [HS.out.2.2.2.1];exact hlt)
    subst ka
    obtain ⟨y,hy⟩:∃ y,l[j]? = some y:=⟨_,List.getElem?_eq_getElem (by rw [HS.out.2.2.2.1];exact hlt)⟩
    rw [hy] at e1 e2
    simp only [Option.getD_some] at e1 e2
    obtain ⟨f,hf⟩:∃ f,y.1=f:=⟨_,rfl⟩
    obtain ⟨t,ht⟩:∃ t,y.2=t:=⟨_,rfl⟩
    rw [hf] at e1
    rw [ht] at e2
    have hyx:y=x↔f=x1∧t=x2:=by
     obtain ⟨g1,g2⟩:=HXX.out
     rw [← hf,← ht,← g1,← g2]
     exact ⟨fun h=>by rw [h];exact ⟨rfl,rfl⟩,fun h=>Prod.ext h.1 h.2⟩
    clear hf ht
    by_cases q1:f=x1
    · by_cases q2:t=x2
      · have HY:Hid (x=y):=(hyx.2 ⟨q1,q2⟩).symm
        clear hyx
        subst q1;subst q2
        have c0:=(HS.out.2.2.1.later HR.out.1).cell 0 rfl
        have c1:=(HS.out.2.2.1.later HR.out.1).cell 1 rfl
        obtain ⟨S,hS⟩:∃ S:World→Prop,S=fun W=>W.cell? ⟨w.heap.size,0,none⟩=some (.int .i64 f)∧W.cell? ⟨w.heap.size,1,none⟩=some (.int .i64 t)∧W.cell? ⟨bb,o+j*2,none⟩=some (.int .i64 f)∧W.cell? ⟨bb,o+j*2+1,none⟩=some (.int .i64 t):=⟨_,rfl⟩
        have HSK:Hid (∀ W,Below wr.heap.size wr W→S W):=fun W hW=>by
         rw [hS]
         exact ⟨(hW.cell (p:=⟨_,_,none⟩) (zac c0)).trans c0,(hW.cell (p:=⟨_,_,none⟩) (zac c1)).trans c1,(hW.cell (p:=⟨_,_,none⟩) (zac e1)).trans e1,(hW.cell (p:=⟨_,_,none⟩) (zac e2)).trans e2⟩
        clear e1 e2 c0 c1
        go_wp2_with fail
        as_aux_lemma =>
         obtain ⟨y0,y1,y2,y3,y4,y5⟩:(∀ {ps} (ev:EV),ev (.tmp 1)=.slice (some ⟨bb,o,none⟩) n c→Yl Try.prog S ev ⟨some 12,.move (.tmp 1),25,ps,#[],none⟩ ((.slice (some ⟨bb,o,none⟩) n c)))∧(∀ {ps} (ev:EV),ev (.tmp 5)=.int .i64 (j:Int)→Yl Try.prog S ev ⟨some 13,.move (.tmp 5),3,ps,#[],none⟩ ((.int .i64 (j:Int))))∧(∀ {ps} (ev:EV),ev (.tmp 12)=.slice (some ⟨bb,o,none⟩) n c→ev (.tmp 13)=.int .i64 (j:Int)→Yl Try.prog S ev ⟨some 14,.indexAddr 25 (.tmp 12) (.tmp 13),0,ps,#[⟨0,.data⟩,⟨1,.data⟩],none⟩ ((.pointer (some ⟨bb,o+j*2,none⟩))))∧(∀ {ps} (ev:EV),ev (.tmp 14)=.pointer (some ⟨bb,o+j*2,none⟩)→Yl Try.prog S ev ⟨some 15,.load 78 (.tmp 14),78,ps,#[⟨2,.data⟩],none⟩ ((.agg #[.int .i64 f,.int .i64 t])))∧(∀ {ps} (ev:EV),ev (.tmp 2)=.pointer (some ⟨w.heap.size,0,none⟩)→Yl Try.prog S ev ⟨some 16,.load 78 (.tmp 2),78,ps,#[],none⟩ ((.agg #[.int .i64 f,.int .i64 t])))∧(∀ {ps} (ev:EV),ev (.tmp 15)=.agg #[.int .i64 f,.int .i64 t]→ev (.tmp 16)=.agg #[.int .i64 f,.int .i64 t]→Yl Try.prog S ev ⟨some 17,.binOp .eql 78 (.tmp 15) (.tmp 16) 78,4,ps,#[⟨3,.data⟩,⟨4,.data⟩],none⟩ ((.bool true))):=by
          refine ⟨?_,?_,?_,?_,?_,?_⟩<;>(intros;intro W hSw;rw [hS] at hSw;(try dsimp only at hSw);go_simp<;>with_reducible rfl)
         refine zb4 (fun W'=>S W'∧Below wr.heap.size wr W') (by kernel_rfl) (by kernel_rfl) ?hC ?_
         case hC=>exact ⟨HSK.out _ (Below.drew (Below.refl _ _)),Below.drew (Below.refl _ _)⟩
         refine zab (by kernel_rfl) (fun W hW=>y0 _ rfl W hW.1) ?_
         try simp only [Act.put,qA,qZ,qS]
         refine zab (by kernel_rfl) (fun W hW=>y1 _ rfl W hW.1) ?_
         try simp only [Act.put,qA,qZ,qS]
         refine zab (by kernel_rfl) (fun W hW=>y2 _ rfl rfl W hW.1) ?_
         try simp only [Act.put,qA,qZ,qS]
         refine zab (by kernel_rfl) (fun W hW=>y3 _ rfl W hW.1) ?_
         try simp only [Act.put,qA,qZ,qS]
         refine zab (by kernel_rfl) (fun W hW=>y4 _ rfl W hW.1) ?_
         try simp only [Act.put,qA,qZ,qS]
         refine zab (by kernel_rfl) (fun W hW=>y5 _ rfl rfl W hW.1) ?_
         try simp only [Act.put,qA,qZ,qS]
         refine zb2 ?_
         intro W5 hC5
         have HB5:Hid (Below W0.heap.size W0 W5):=Below.on HR.out.1 hC5.2
         clear y0 y1 y2 y3 y4 y5 hC5 HSK
         have hbt:b=true:=by rw [← HS.out.2.2.2.2,HY.out];exact decide_eq_true (List.mem_of_getElem? hy)
         go_wp2_with fail
         go_ret
         exact ⟨by first|rfl|exact za1 hbt.symm,Below.on HS.out.2.1 HB5.out⟩
      · have HY:Hid (¬y=x):=fun h=>q2 (hyx.1 h).2
        clear hyx
        subst q1
        have c0:=(HS.out.2.2.1.later HR.out.1).cell 0 rfl
        have c1:=(HS.out.2.2.1.later HR.out.1).cell 1 rfl
        obtain ⟨S,hS⟩:∃ S:World→Prop,S=fun W=>W.cell? ⟨w.heap.size,0,none⟩=some (.int .i64 f)∧W.cell? ⟨w.heap.size,1,none⟩=some (.int .i64 x2)∧W.cell? ⟨bb,o+j*2,none⟩=some (.int .i64 f)∧W.cell? ⟨bb,o+j*2+1,none⟩=some (.int .i64 t):=⟨_,rfl⟩
        have HSK:Hid (∀ W,Below wr.heap.size wr W→S W):=fun W hW=>by
         rw [hS]
         exact ⟨(hW.cell (p:=⟨_,_,none⟩) (zac c0)).trans c0,(hW.cell (p:=⟨_,_,none⟩) (zac c1)).trans c1,(hW.cell (p:=⟨_,_,none⟩) (zac e1)).trans e1,(hW.cell (p:=⟨_,_,none⟩) (zac e2)).trans e2⟩
        clear e1 e2 c0 c1
        go_wp2_with fail
        as_aux_lemma =>
         obtain ⟨y0,y1,y2,y3,y4,y5⟩:(∀ {ps} (ev:EV),ev (.tmp 1)=.slice (some ⟨bb,o,none⟩) n c→Yl Try.prog S ev ⟨some 12,.move (.tmp 1),25,ps,#[],none⟩ ((.slice (some ⟨bb,o,none⟩) n c)))∧(∀ {ps} (ev:EV),ev (.tmp 5)=.int .i64 (j:Int)→Yl Try.prog S ev ⟨some 13,.move (.tmp 5),3,ps,#[],none⟩ ((.int .i64 (j:Int))))∧(∀ {ps} (ev:EV),ev (.tmp 12)=.slice (some ⟨bb,o,none⟩) n c→ev (.tmp 13)=.int .i64 (j:Int)→Yl Try.prog S ev ⟨some 14,.indexAddr 25 (.tmp 12) (.tmp 13),0,ps,#[⟨0,.data⟩,⟨1,.data⟩],none⟩ ((.pointer (some ⟨bb,o+j*2,none⟩))))∧(∀ {ps} (ev:EV),ev (.tmp 14)=.pointer (some ⟨bb,o+j*2,none⟩)→Yl Try.prog S ev ⟨some 15,.load 78 (.tmp 14),78,ps,#[⟨2,.data⟩],none⟩ ((.agg #[.int .i64 f,.int .i64 t])))∧(∀ {ps} (ev:EV),ev (.tmp 2)=.pointer (some ⟨w.heap.size,0,none⟩)→Yl Try.prog S ev ⟨some 16,.load 78 (.tmp 2),78,ps,#[],none⟩ ((.agg #[.int .i64 f,.int .i64 x2])))∧(∀ {ps} (ev:EV),ev (.tmp 15)=.agg #[.int .i64 f,.int .i64 t]→ev (.tmp 16)=.agg #[.int .i64 f,.int .i64 x2]→Yl Try.prog S ev ⟨some 17,.binOp .eql 78 (.tmp 15) (.tmp 16) 78,4,ps,#[⟨3,.data⟩,⟨4,.data⟩],none⟩ ((.bool false))):=by
          refine ⟨?_,?_,?_,?_,?_,?_⟩<;>(intros;intro W hSw;rw [hS] at hSw;(try dsimp only at hSw);go_simp<;>with_reducible rfl)
         refine zb4 (fun W'=>S W'∧Below wr.heap.size wr W') (by kernel_rfl) (by kernel_rfl) ?hC ?_
         case hC=>exact ⟨HSK.out _ (Below.drew (Below.refl _ _)),Below.drew (Below.refl _ _)⟩
         refine zab (by kernel_rfl) (fun W hW=>y0 _ rfl W hW.1) ?_
         try simp only [Act.put,qA,qZ,qS]
         refine zab (by kernel_rfl) (fun W hW=>y1 _ rfl W hW.1) ?_
         try simp only [Act.put,qA,qZ,qS]
         refine zab (by kernel_rfl) (fun W hW=>y2 _ rfl rfl W hW.1) ?_
         try simp only [Act.put,qA,qZ,qS]
         refine zab (by kernel_rfl) (fun W hW=>y3 _ rfl W hW.1) ?_
         try simp only [Act.put,qA,qZ,qS]
         refine zab (by kernel_rfl) (fun W hW=>y4 _ rfl W hW.1) ?_
         try simp only [Act.put,qA,qZ,qS]
         refine zab (by kernel_rfl) (fun W hW=>y5 _ rfl rfl W hW.1) ?_
         try simp only [Act.put,qA,qZ,qS]
         refine zb2 ?_
         intro W5 hC5
         have HB5:Hid (Below W0.heap.size W0 W5):=Below.on HR.out.1 hC5.2
         clear y0 y1 y2 y3 y4 y5 hC5 HSK
         go_wp2_with fail
         go_roundw
         case rel =>
          refine ⟨j+1,by go_num,by omega,HB5.out,fun i hi=>?_⟩
          rcases Nat.lt_or_ge i j with h|h
          · exact HR.out.2 i h
          · obtain rfl:i=j:=by omega
            rw [hy]
            intro e
            injection e with e
            exact HY.out e
         case measure=>simp [intOf];omega
    · have HY:Hid (¬y=x):=fun h=>q1 (hyx.1 h).1
      clear hyx
      have c0:=(HS.out.2.2.1.later HR.out.1).cell 0 rfl
      have c1:=(HS.out.2.2.1.later HR.out.1).cell 1 rfl
      obtain ⟨S,hS⟩:∃ S:World→Prop,S=fun W=>W.cell? ⟨w.heap.size,0,none⟩=some (.int .i64 x1)∧W.cell? ⟨w.heap.size,1,none⟩=some (.int .i64 x2)∧W.cell? ⟨bb,o+j*2,none⟩=some (.int .i64 f)∧W.cell? ⟨bb,o+j*2+1,none⟩=some (.int .i64 t):=⟨_,rfl⟩
      have HSK:Hid (∀ W,Below wr.heap.size wr W→S W):=fun W hW=>by
       rw [hS]
       exact ⟨(hW.cell (p:=⟨_,_,none⟩) (zac c0)).trans c0,(hW.cell (p:=⟨_,_,none⟩) (zac c1)).trans c1,(hW.cell (p:=⟨_,_,none⟩) (zac e1)).trans e1,(hW.cell (p:=⟨_,_,none⟩) (zac e2)).trans e2⟩
      clear e1 e2 c0 c1
      go_wp2_with fail
      as_aux_lemma =>
       obtain ⟨y0,y1,y2,y3,y4,y5⟩:(∀ {ps} (ev:EV),ev (.tmp 1)=.slice (some ⟨bb,o,none⟩) n c→Yl Try.prog S ev ⟨some 12,.move (.tmp 1),25,ps,#[],none⟩ ((.slice (some ⟨bb,o,none⟩) n c)))∧(∀ {ps} (ev:EV),ev (.tmp 5)=.int .i64 (j:Int)→Yl Try.prog S ev ⟨some 13,.move (.tmp 5),3,ps,#[],none⟩ ((.int .i64 (j:Int))))∧(∀ {ps} (ev:EV),ev (.tmp 12)=.slice (some ⟨bb,o,none⟩) n c→ev (.tmp 13)=.int .i64 (j:Int)→Yl Try.prog S ev ⟨some 14,.indexAddr 25 (.tmp 12) (.tmp 13),0,ps,#[⟨0,.data⟩,⟨1,.data⟩],none⟩ ((.pointer (some ⟨bb,o+j*2,none⟩))))∧(∀ {ps} (ev:EV),ev (.tmp 14)=.pointer (some ⟨bb,o+j*2,none⟩)→Yl Try.prog S ev ⟨some 15,.load 78 (.tmp 14),78,ps,#[⟨2,.data⟩],none⟩ ((.agg #[.int .i64 f,.int .i64 t])))∧(∀ {ps} (ev:EV),ev (.tmp 2)=.pointer (some ⟨w.heap.size,0,none⟩)→Yl Try.prog S ev ⟨some 16,.load 78 (.tmp 2),78,ps,#[],none⟩ ((.agg #[.int .i64 x1,.int .i64 x2])))∧(∀ {ps} (ev:EV),ev (.tmp 15)=.agg #[.int .i64 f,.int .i64 t]→ev (.tmp 16)=.agg #[.int .i64 x1,.int .i64 x2]→Yl Try.prog S ev ⟨some 17,.binOp .eql 78 (.tmp 15) (.tmp 16) 78,4,ps,#[⟨3,.data⟩,⟨4,.data⟩],none⟩ ((.bool false))):=by
        refine ⟨?_,?_,?_,?_,?_,?_⟩<;>(intros;intro W hSw;rw [hS] at hSw;(try dsimp only at hSw);go_simp<;>with_reducible rfl)
       refine zb4 (fun W'=>S W'∧Below wr.heap.size wr W') (by kernel_rfl) (by kernel_rfl) ?hC ?_
       case hC=>exact ⟨HSK.out _ (Below.drew (Below.refl _ _)),Below.drew (Below.refl _ _)⟩
       refine zab (by kernel_rfl) (fun W hW=>y0 _ rfl W hW.1) ?_
       try simp only [Act.put,qA,qZ,qS]
       refine zab (by kernel_rfl) (fun W hW=>y1 _ rfl W hW.1) ?_
       try simp only [Act.put,qA,qZ,qS]
       refine zab (by kernel_rfl) (fun W hW=>y2 _ rfl rfl W hW.1) ?_
       try simp only [Act.put,qA,qZ,qS]
       refine zab (by kernel_rfl) (fun W hW=>y3 _ rfl W hW.1) ?_
       try simp only [Act.put,qA,qZ,qS]
       refine zab (by kernel_rfl) (fun W hW=>y4 _ rfl W hW.1) ?_
       try simp only [Act.put,qA,qZ,qS]
       refine zab (by kernel_rfl) (fun W hW=>y5 _ rfl rfl W hW.1) ?_
       try simp only [Act.put,qA,qZ,qS]
       refine zb2 ?_
       intro W5 hC5
       have HB5:Hid (Below W0.heap.size W0 W5):=Below.on HR.out.1 hC5.2
       clear y0 y1 y2 y3 y4 y5 hC5 HSK
       go_wp2_with fail
       go_roundw
       case rel =>
        refine ⟨j+1,by go_num,by omega,HB5.out,fun i hi=>?_⟩
        rcases Nat.lt_or_ge i j with h|h
        · exact HR.out.2 i h
        · obtain rfl:i=j:=by omega
          rw [hy]
          intro e
          injection e with e
          exact HY.out e
       case measure=>simp [intOf];omega
  · obtain rfl:j=n:=by omega
    have hge:¬((j:Int)<(j:Int)):=by omega
    have hbf:b=false:=by
     rw [← HS.out.2.2.2.2]
     apply decide_eq_false
     intro hm
     obtain ⟨i,hi,e⟩:=List.getElem_of_mem hm
     exact HR.out.2 i (by rw [HS.out.2.2.2.1] at hi;exact hi) (by rw [List.getElem?_eq_getElem hi,e])
    go_wp2_with fail
    go_ret
    exact ⟨by first|rfl|exact za1 hbf.symm,Below.on HS.out.2.1 HR.out.1⟩
end Go.Proofs.Ytkigcdmlkmcdcaa
namespace Go.Proofs.Ytkigcdmlkmcdcaa
open Go.ChangeShapes Go.WideShapes Go.ChangeAt Go.RowKit
set_option linter.unusedVariables false
set_option linter.unusedSimpArgs false
theorem take_more {l:List Tm} {i:Nat} {y:Tm} (h:l[i]? = some y):l.take i++[y]=l.take (i+1):=by
 rw [List.take_add_one,h];rfl
set_option maxRecDepth 100000 in
set_option maxHeartbeats 4000000 in
theorem zey (A:Option Addr) (c:Nat) (es:List En) (w:World) (hP:PcsAt w A c es) (n:Nat) (hn:es.length=n) :
 Calls Try.prog 46 #[.slice A n c] w fun e w'=>∃ va vc,e=.returned (.slice va n vc)∧RowT w' w.heap.size va n vc (spnsW es)∧Below w.heap.size w w':=by
 have HS:Hid (PcsAt w A c es∧es.length=n∧(spnsW es).length=n):=⟨hP,hn,by unfold spnsW;rw [List.length_map,hn]⟩
 have hb1:n*32≤140737488351232:=by have:=hP.reach;omega
 clear hP hn
 go_enter Try.func46,Try.ntmps46
 go_wp2_with fail
 go_loopw [3,4] (fun vo vi wr=>∃ (i:Nat) (va:Option Addr) (vc:Nat),vi=.int .i64 (i:Int)∧vo=.slice va i vc∧i≤n∧Hid (RowT wr w.heap.size va i vc ((spnsW es).take i)∧Below w.heap.size w wr)) (fun _ vi _=>n-(intOf vi).toNat)
 case atStart=>exact ⟨0,none,0,rfl,rfl,Nat.zero_le _,World.ownsRow_nil _ _ _ _,Below.refl _ _⟩
 case round =>
  obtain ⟨i,va,vc,rfl,rfl,hi,HR⟩:=hrel
  by_cases hlt:i<n
  · have hlt':(i:Int)<(n:Int):=by omega
    obtain ⟨x,hx⟩:∃ x,es[i]? = some x:=⟨_,List.getElem?_eq_getElem (by rw [HS.out.2.1];exact hlt)⟩
    obtain ⟨b,o,ka,e1,e2⟩:=(HS.out.1.later HR.out.2).ents i x hx
    subst ka
    obtain ⟨t,ht⟩:∃ t,wrap64 (x.f+(x.bs.length:Int))=t:=⟨_,rfl⟩
    have ht2:IntKind.i64.wrap (x.f+(x.bs.length:Int))=t:=by rw [← ht];simp [IntKind.wrap,IntKind.signed,IntKind.bits,wrap64];split<;>omega
    have hsp:(spnsW es)[i]? = some (x.f,t):=by unfold spnsW;rw [List.getElem?_map,hx];simp [spW,ht]
    obtain ⟨S,hS⟩:∃ S:World→Prop,S=fun W=>W.cell? ⟨b,o+i*2,none⟩=some (.int .i64 x.f)∧W.cell? ⟨b,o+i*2+1,none⟩=some (.slice x.a x.bs.length x.c):=⟨_,rfl⟩
    have hbw:b<w.heap.size:=by
     obtain ⟨b',o',ka',e1',_⟩:=HS.out.1.ents i x hx
     cases ka'
     exact zac e1'
    have HSK:Hid (∀ W,Below w.heap.size wr W→S W):=fun W hW=>by
     rw [hS]
     exact ⟨(hW.cell (p:=⟨_,_,none⟩) hbw).trans e1,(hW.cell (p:=⟨_,_,none⟩) hbw).trans e2⟩
    have HT:Hid ((spnsW es)[i]? = some (x.f,t)):=hsp
    clear e1 e2 hx hsp ht hbw
    go_wp2_with fail
    as_aux_lemma =>
     obtain ⟨y0,y1,y2,y3,y4,y5,y6,y7,y8,y9,y10,y11,y12,y13,y14,y15,y16,y17,y18⟩:(∀ {ps} (ev:EV),ev (.tmp 3)=.slice va i vc→Yl Try.prog S ev ⟨some 11,.move (.tmp 3),25,ps,#[],none⟩ ((.slice va i vc)))∧(∀ {ps} (ev:EV),ev (.tmp 0)=.slice (some ⟨b,o,none⟩) n c→Yl Try.prog S ev ⟨some 12,.move (.tmp 0),23,ps,#[],none⟩ ((.slice (some ⟨b,o,none⟩) n c)))∧(∀ {ps} (ev:EV),ev (.tmp 4)=.int .i64 (i:Int)→Yl Try.prog S ev ⟨some 13,.move (.tmp 4),3,ps,#[],none⟩ ((.int .i64 (i:Int))))∧(∀ {ps} (ev:EV),ev (.tmp 12)=.slice (some ⟨b,o,none⟩) n c→ev (.tmp 13)=.int .i64 (i:Int)→Yl Try.prog S ev ⟨some 14,.indexAddr 23 (.tmp 12) (.tmp 13),0,ps,#[⟨1,.data⟩,⟨2,.data⟩],none⟩ ((.pointer (some ⟨b,o+i*2,none⟩))))∧(∀ {ps} (ev:EV),ev (.tmp 14)=.pointer (some ⟨b,o+i*2,none⟩)→Yl Try.prog S ev ⟨some 15,.fieldAddr 74 (.tmp 14) 0,0,ps,#[⟨3,.data⟩],none⟩ ((.pointer (some ⟨b,o+i*2,none⟩))))∧(∀ {ps} (ev:EV),ev (.tmp 15)=.pointer (some ⟨b,o+i*2,none⟩)→Yl Try.prog S ev ⟨some 16,.load 3 (.tmp 15),3,ps,#[⟨4,.data⟩],none⟩ ((.int .i64 x.f)))∧(∀ {ps} (ev:EV),ev (.tmp 0)=.slice (some ⟨b,o,none⟩) n c→Yl Try.prog S ev ⟨some 17,.move (.tmp 0),23,ps,#[],none⟩ ((.slice (some ⟨b,o,none⟩) n c)))∧(∀ {ps} (ev:EV),ev (.tmp 4)=.int .i64 (i:Int)→Yl Try.prog S ev ⟨some 18,.move (.tmp 4),3,ps,#[],none⟩ ((.int .i64 (i:Int))))∧(∀ {ps} (ev:EV),ev (.tmp 17)=.slice (some ⟨b,o,none⟩) n c→ev (.tmp 18)=.int .i64 (i:Int)→Yl Try.prog S ev ⟨some 19,.indexAddr 23 (.tmp 17) (.tmp 18),0,ps,#[⟨6,.data⟩,⟨7,.data⟩],none⟩ ((.pointer (some ⟨b,o+i*2,none⟩))))∧(∀ {ps} (ev:EV),ev (.tmp 19)=.pointer (some ⟨b,o+i*2,none⟩)→Yl Try.prog S ev ⟨some 20,.fieldAddr 74 (.tmp 19) 0,0,ps,#[⟨8,.data⟩],none⟩ ((.pointer (some ⟨b,o+i*2,none⟩))))∧(∀ {ps} (ev:EV),ev (.tmp 20)=.pointer (some ⟨b,o+i*2,none⟩)→Yl Try.prog S ev ⟨some 21,.load 3 (.tmp 20),3,ps,#[⟨9,.data⟩],none⟩ ((.int .i64 x.f)))∧(∀ {ps} (ev:EV),ev (.tmp 0)=.slice (some ⟨b,o,none⟩) n c→Yl Try.prog S ev ⟨some 22,.move (.tmp 0),23,ps,#[],none⟩ ((.slice (some ⟨b,o,none⟩) n c)))∧(∀ {ps} (ev:EV),ev (.tmp 4)=.int .i64 (i:Int)→Yl Try.prog S ev ⟨some 23,.move (.tmp 4),3,ps,#[],none⟩ ((.int .i64 (i:Int))))∧(∀ {ps} (ev:EV),ev (.tmp 22)=.slice (some ⟨b,o,none⟩) n c→ev (.tmp 23)=.int .i64 (i:Int)→Yl Try.prog S ev ⟨some 24,.indexAddr 23 (.tmp 22) (.tmp 23),0,ps,#[⟨11,.data⟩,⟨12,.data⟩],none⟩ ((.pointer (some ⟨b,o+i*2,none⟩))))∧(∀ {ps} (ev:EV),ev (.tmp 24)=.pointer (some ⟨b,o+i*2,none⟩)→Yl Try.prog S ev ⟨some 25,.fieldAddr 74 (.tmp 24) 1,0,ps,#[⟨13,.data⟩],none⟩ ((.pointer (some ⟨b,o+i*2+1,none⟩))))∧(∀ {ps} (ev:EV),ev (.tmp 25)=.pointer (some ⟨b,o+i*2+1,none⟩)→Yl Try.prog S ev ⟨some 26,.load 22 (.tmp 25),22,ps,#[⟨14,.data⟩],none⟩ ((.slice x.a x.bs.length x.c)))∧(∀ {ps} (ev:EV),ev (.tmp 26)=.slice x.a x.bs.length x.c→Yl Try.prog S ev ⟨some 27,.call { callee:=.builtin .len,args:=#[.tmp 26],argTypes:=#[22]},3,ps,#[⟨15,.data⟩],none⟩ ((.int .i64 (x.bs.length:Int))))∧(∀ {ps} (ev:EV),ev (.tmp 21)=.int .i64 x.f→ev (.tmp 27)=.int .i64 (x.bs.length:Int)→Yl Try.prog S ev ⟨some 28,.binOp .add 3 (.tmp 21) (.tmp 27) 3,3,ps,#[⟨10,.data⟩,⟨16,.data⟩],none⟩ ((.int .i64 t)))∧(∀ {ps} (ev:EV),ev (.tmp 16)=.int .i64 x.f→ev (.tmp 28)=.int .i64 t→Yl Try.prog S ev ⟨some 29,.build 78 #[(0,.tmp 16),(1,.tmp 28)],78,ps,#[⟨5,.data⟩,⟨17,.data⟩],none⟩ ((.agg #[.int .i64 x.f,.int .i64 t]))):=by
      refine ⟨?_,?_,?_,?_,?_,?_,?_,?_,?_,?_,?_,?_,?_,?_,?_,?_,?_,?_,?_⟩<;>(intros;intro W hSw;rw [hS] at hSw;(try dsimp only at hSw);go_simp<;>with_reducible rfl)
     refine zaq S 21 (by kernel_rfl) (HSK.out _ (Below.drew (Below.refl _ _))) (fun hHeld=>?_)
     refine zk 0 (y0 _ rfl) ?_
     try simp only [Act.put,qA,qZ,qS]
     refine zk 1 (y1 _ rfl) ?_
     try simp only [Act.put,qA,qZ,qS]
     refine zk 2 (y2 _ rfl) ?_
     try simp only [Act.put,qA,qZ,qS]
     refine zk 3 (y3 _ rfl rfl) ?_
     try simp only [Act.put,qA,qZ,qS]
     refine zk 4 (y4 _ rfl) ?_
     try simp only [Act.put,qA,qZ,qS]
     refine zk 5 (y5 _ rfl) ?_
     try simp only [Act.put,qA,qZ,qS]
     refine zk 6 (y6 _ rfl) ?_
     try simp only [Act.put,qA,qZ,qS]
     refine zk 7 (y7 _ rfl) ?_
     try simp only [Act.put,qA,qZ,qS]
     refine zk 8 (y8 _ rfl rfl) ?_
     try simp only [Act.put,qA,qZ,qS]
     refine zk 9 (y9 _ rfl) ?_
     try simp only [Act.put,qA,qZ,qS]
     refine zk 10 (y10 _ rfl) ?_
     try simp only [Act.put,qA,qZ,qS]
     refine zk 11 (y11 _ rfl) ?_
     try simp only [Act.put,qA,qZ,qS]
     refine zk 12 (y12 _ rfl) ?_
     try simp only [Act.put,qA,qZ,qS]
     refine zk 13 (y13 _ rfl rfl) ?_
     try simp only [Act.put,qA,qZ,qS]
     refine zk 14 (y14 _ rfl) ?_
     try simp only [Act.put,qA,qZ,qS]
     refine zk 15 (y15 _ rfl) ?_
     try simp only [Act.put,qA,qZ,qS]
     refine zk 16 (y16 _ rfl) ?_
     try simp only [Act.put,qA,qZ,qS]
     refine zk 17 (y17 _ rfl rfl) ?_
     try simp only [Act.put,qA,qZ,qS]
     refine zk 18 (y18 _ rfl rfl) ?_
     try simp only [Act.put,qA,qZ,qS]
     refine zah (i:=19) (o:=⟨some 30,.buildSlice 25 1 #[(0,.tmp 29)],25,_,#[⟨18,.data⟩],none⟩) (by kernel_rfl) rfl (fun K hK=>?_)
     rw [if_pos (by rfl)]
     go_simp
     obtain ⟨X6,hX6⟩:∃ X6,(wr.alloc (.cells #[.int .i64 x.f,.int .i64 t] 78)).drew=X6:=⟨_,rfl⟩
     have b6:Below wr.heap.size wr X6:=by rw [← hX6];exact Below.drew (zaa (Below.refl _ _) _)
     have b6':Below w.heap.size wr X6:=b6.mono HR.out.2.size
     have hT6:∀ j u,[Value.int .i64 x.f,Value.int .i64 t][j]? = some u→X6.cell? ((⟨wr.heap.size,0,none⟩:Addr).add j)=some u:=by
      intro j u hj
      have hb:=(Box.new wr 78 [.int .i64 x.f,.int .i64 t]).later (Below.drew (Below.refl _ _))
      rw [← hX6]
      rw [zb1,Nat.zero_add]
      exact hb.cell j hj
     have hO6:RowT X6 w.heap.size va i vc ((spnsW es).take i):=HR.out.1.later b6
     have hs6:w.heap.size≤X6.heap.size:=by have:=HR.out.2.size;have:=b6.size;omega
     try rw [hX6]
     refine hK.out _ _ ⟨fun _=>HSK.out _ b6',?_⟩
     clear hK K hHeld hX6
     try simp only [Act.put,qA,qZ,qS]
     refine zah (i:=20) (o:=⟨some 31,.call { callee:=.builtin .append,args:=#[.tmp 11,.tmp 30],argTypes:=#[25,25]},25,_,#[⟨0,.data⟩,⟨19,.data⟩],none⟩) (by kernel_rfl) rfl (fun K hK=>?_)
     refine step_appT rfl (.tmp 11) (.tmp 30) rfl w.heap.size va i vc ((spnsW es).take i) ⟨wr.heap.size,0,none⟩ (x.f,t) rfl rfl hO6 hs6 hT6 (by omega) ?_
     intro va' vc' w7 hr7 hg7 hl7
     have b7:Below w.heap.size wr w7:=za4 b6' hs6 hO6 hg7
     refine hK.out _ _ ⟨fun _=>HSK.out _ b7,?_⟩
     clear hK K
     try simp only [Act.put,qA,qZ,qS]
     refine zah (i:=21) (o:=⟨some 3,.assign (.tmp 31),25,_,#[⟨20,.data⟩,⟨20,.chain⟩,⟨0,.phase⟩,⟨1,.phase⟩,⟨2,.phase⟩,⟨3,.phase⟩,⟨4,.phase⟩,⟨5,.phase⟩,⟨6,.phase⟩,⟨7,.phase⟩,⟨8,.phase⟩,⟨9,.phase⟩,⟨10,.phase⟩,⟨11,.phase⟩,⟨12,.phase⟩,⟨13,.phase⟩,⟨14,.phase⟩,⟨15,.phase⟩,⟨16,.phase⟩,⟨17,.phase⟩,⟨18,.phase⟩,⟨19,.phase⟩,⟨20,.phase⟩],none⟩) (by kernel_rfl) rfl (fun K hK=>?_)
     rw [if_pos (by rfl)]
     go_simp
     refine hK.out _ _ ⟨fun h=>absurd rfl h,?_⟩
     clear hK K
     refine zax (by kernel_rfl) ?_ _
     try simp only [Act.put,qA,qZ,qS]
     rw [take_more HT.out] at hr7
     have HN:Hid (RowT w7 w.heap.size va' (i+1) vc' ((spnsW es).take (i+1))∧Below w.heap.size w w7):=⟨hr7,HR.out.2.trans b7⟩
     clear y0 y1 y2 y3 y4 y5 y6 y7 y8 y9 y10 y11 y12 y13 y14 y15 y16 y17 y18 hS HSK b6 b6' hT6 hO6 hs6 hr7 hg7 hl7 b7 HR HT
     go_wp2_with fail
     go_roundw
     case rel=>exact ⟨i+1,va',vc',by go_num,rfl,by omega,HN⟩
     case measure=>simp [intOf];omega
  · obtain rfl:i=n:=by omega
    have hge:¬((i:Int)<(i:Int)):=by omega
    go_wp2_with fail
    go_ret
    refine ⟨va,vc,rfl,?_,HR.out.2⟩
    have:=HR.out.1
    rw [List.take_of_length_le (by rw [HS.out.2.2];exact Nat.le_refl _)] at this
    exact this
end Go.Proofs.Ytkigcdmlkmcdcaa
