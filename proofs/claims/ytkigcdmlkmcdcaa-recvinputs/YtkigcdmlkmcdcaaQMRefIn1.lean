/- The document's Input. -/
import Derived.Test.YtkigcdmlkmcdcaaQZ
import Derived.Test.YtkigcdmlkmcdcaaQMRefIn2
namespace Go.Proofs.Ytkigcdmlkmcdcaa
open Go.ChangeShapes Go.WideShapes Go.ChangeAt Go.RowKit
set_option linter.unusedVariables false
set_option linter.unusedSimpArgs false
set_option maxRecDepth 100000 in
set_option maxHeartbeats 16000000 in
theorem refInput_in (r:Pl.Rv) (h:Hd) (s:Seg) (ks:Hs) (w:World) (H:RvAt w r h) (hok:r.Ok) (hs:SgAt w s ks) (HST:Hid (r.stamps=false∨s.st=true)) (ra:Pl.Rv) (hra:(if Pl.oldB r (segOf s)=true then r else Pl.intoR r (segOf s))=ra) (bl:List Tm) (hbl:(if Pl.oldB r (segOf s)=true then r.first else blkL r (segOf s))=bl) :
 Calls Try.prog 15 #[.agg #[.int .i64 r.s.n,.slice h.ua r.s.u.length h.uc,.slice h.la h.es.length h.lc,.int .i64 r.cap,.int .i64 r.shift,.int .i64 r.edge,.int .u32 r.recent,.bool r.stamps,.bool r.sacks,.int .i64 r.fin,.bool r.dn,.slice h.fa r.first.length h.fc,.int .u32 r.irs,.int .u32 r.own,.bool r.stamp],.agg #[.int .i64 s.sp,.int .i64 s.dp,.int .u32 s.sq,.int .u32 s.ak,.int .i64 s.fl,.int .i64 s.wn,.int .i64 s.ur,.int .i64 s.ms,.int .i64 s.sc,.bool s.so,.bool s.st,.int .u32 s.va,.int .u32 s.ec,.slice ks.ka s.sk.length ks.kc,.slice ks.da s.da.length ks.dc]] w (zej w ra bl):=by
 have HOK:Hid (r.Ok∧U32 r.recent∧U32 r.irs∧U32 r.own∧SgAt w s ks):=⟨hok,H.recent,H.irs,H.own,hs⟩
 obtain ⟨st,hst⟩:∃ st,Pl.oldB r (segOf s)=st:=⟨_,rfl⟩
 rw [hst] at hra hbl
 have HRA:Hid ((if st=true then r else Pl.intoR r (segOf s))=ra∧(if st=true then r.first else blkL r (segOf s))=bl∧Pl.oldB r (segOf s)=st):=⟨hra,hbl,hst⟩
 clear hra hbl hst hs
 obtain ⟨W0,hW0⟩:∃ W0,(((w.alloc (.cells #[.int .i64 r.s.n,.slice h.ua r.s.u.length h.uc,.slice h.la h.es.length h.lc,.int .i64 r.cap,.int .i64 r.shift,.int .i64 r.edge,.int .u32 r.recent,.bool r.stamps,.bool r.sacks,.int .i64 r.fin,.bool r.dn,.slice h.fa r.first.length h.fc,.int .u32 r.irs,.int .u32 r.own,.bool r.stamp] 27)).alloc (.cells #[.int .i64 s.sp,.int .i64 s.dp,.int .u32 s.sq,.int .u32 s.ak,.int .i64 s.fl,.int .i64 s.wn,.int .i64 s.ur,.int .i64 s.ms,.int .i64 s.sc,.bool s.so,.bool s.st,.int .u32 s.va,.int .u32 s.ec,.slice ks.ka s.sk.length ks.kc,.slice ks.da s.da.length ks.dc] 34)).alloc (.cells zR.toArray 27)).alloc (.cells zS.toArray 34)=W0:=⟨_,rfl⟩
 obtain ⟨hX,hG,hZ,hZS,hs0,b0⟩:Box W0 w.heap.size 27 (rvL r h)∧Box W0 (w.heap.size+1) 34 [.int .i64 s.sp,.int .i64 s.dp,.int .u32 s.sq,.int .u32 s.ak,.int .i64 s.fl,.int .i64 s.wn,.int .i64 s.ur,.int .i64 s.ms,.int .i64 s.sc,.bool s.so,.bool s.st,.int .u32 s.va,.int .u32 s.ec,.slice ks.ka s.sk.length ks.kc,.slice ks.da s.da.length ks.dc]∧Box W0 (w.heap.size+2) 27 zR∧Box W0 (w.heap.size+3) 34 zS∧W0.heap.size=w.heap.size+4∧Below w.heap.size w W0:=zgm w (rvL r h) (sgL s ks) hW0
 have HX:Hid (Box W0 w.heap.size 27 (rvL r h)∧Box W0 (w.heap.size+1) 34 [.int .i64 s.sp,.int .i64 s.dp,.int .u32 s.sq,.int .u32 s.ak,.int .i64 s.fl,.int .i64 s.wn,.int .i64 s.ur,.int .i64 s.ms,.int .i64 s.sc,.bool s.so,.bool s.st,.int .u32 s.va,.int .u32 s.ec,.slice ks.ka s.sk.length ks.kc,.slice ks.da s.da.length ks.dc]∧Box W0 (w.heap.size+2) 27 zR∧Box W0 (w.heap.size+3) 34 zS∧W0.heap.size=w.heap.size+4∧Below w.heap.size w W0):=⟨hX,hG,hZ,hZS,hs0,b0⟩
 have HH:Hid (RvAt w r h∧r.Ok):=⟨H,hok⟩
 have cC:=zeb r h W0 (H.later b0) hok
 obtain ⟨c0,c1,c2,c3,c4,c5,c6,c7,c8,c9,c10,c11,c12,c13,c14⟩:=Box.c15 hX
 clear hX hG hZ hZS hs0 b0 H hok
 go_enter Try.func15,Try.ntmps15
 go_wp2_with fail
 refine cC.mono ?_
 rintro e w1 ⟨rfl,hB1⟩
 have HB1:Hid (Below w.heap.size w w1∧Below W0.heap.size W0 w1):=⟨Below.on HX.out.2.2.2.2.2 hB1,hB1⟩
 clear c0 c1 c2 c3 c4 c5 c6 c7 c8 c9 c10 c11 c12 c13 c14 cC hW0 hB1
 obtain ⟨c0,c1,c2,c3,c4,c5,c6,c7,c8,c9,c10,c11,c12,c13,c14⟩:=Box.c15 (HX.out.1.later HB1.out.2)
 go_wp2_with fail
 refine (zct r h w1 (HH.out.1.later HB1.out.1)).mono ?_
 rintro e w2 ⟨k,rfl,hO,hB2⟩
 clear c0 c1 c2 c3 c4 c5 c6 c7 c8 c9 c10 c11 c12 c13 c14
 have hx2:=(HX.out.1.later HB1.out.2).later hB2
 have hx2':Box w2 w.heap.size 27 (rvL r h):=hx2
 obtain ⟨V,hV⟩:∃ V,setAll w2 w.heap.size 0 (rvL r k)=V:=⟨_,rfl⟩
 have HS:Hid (RiS w V r k s ks):=by
  have h0:=HX.out.2.2.2.2.1
  have h1:=HB1.out.2.size
  rw [← hV]
  refine ⟨hx2.put _ rfl,((HX.out.2.1.later HB1.out.2).later hB2).putAside _ _ _ (by omega),((HX.out.2.2.1.later HB1.out.2).later hB2).putAside _ _ _ (by omega),((HX.out.2.2.2.1.later HB1.out.2).later hB2).putAside _ _ _ (by omega),?_,?_,hO.frc,zaf (Nat.le_refl _) (Below.on HB1.out.1 hB2)⟩
  · exact (hO.mono (B':=w.heap.size) (by omega)).tk.besideAll (by decide) (by decide) _ _ _ 0 hx2
  · exact zav (hO.mono (B':=w.heap.size) (by omega)).fst hx2 (by decide) _ _
 have HV:Hid (setAll w2 w.heap.size 0 (rvL r k)=V):=hV
 obtain ⟨c0,c1,c2,c3,c4,c5,c6,c7,c8,c9,c10,c11,c12,c13,c14⟩:=Box.c15 hx2'
 obtain ⟨f0,f1,f2,f3,f4,f5,f6,f7,f8,f9,f10,f11,f12,f13,f14⟩:=Box.f15 hx2'
 clear hx2 hx2' hO hB2 HX HB1 hV
 go_upto_region 4 with fail
 clear c0 c1 c2 c3 c4 c5 c6 c7 c8 c9 c10 c11 c12 c13 c14 f0 f1 f2 f3 f4 f5 f6 f7 f8 f9 f10 f11 f12 f13 f14
 refine ze3 HV.out ?_
 clear HV
 go_cut [33] (fun v33 wx=>v33=.bool false∧wx=V)
 case first =>
  have c7:=HS.out.box.cell 7 rfl
  have c10:=HS.out.sg.cell 10 rfl
  rcases (by cases r.stamps<;>simp:r.stamps=true∨r.stamps=false) with h1|h1
  · have h2:s.st=true:=by
     rcases HST.out with h3|h3
     · rw [h1] at h3;cases h3
     · exact h3
    rw [h1] at c7
    rw [h2] at c10
    clear h1 h2
    go_wp2_with fail
    go_meet
    exact ⟨by simp,rfl⟩
  · rw [h1] at c7
    clear h1
    go_wp2_with fail
    go_meet
    exact ⟨by simp,rfl⟩
 case rest =>
  obtain ⟨rfl,rfl⟩:=hcut
  obtain ⟨x,hx⟩:∃ x,Pl.offI r (segOf s)=x:=⟨_,rfl⟩
  obtain ⟨E,hE⟩:∃ E,x+(s.da.length:Int)=E:=⟨_,rfl⟩
  have hob:=zgf (g:=segOf s) HOK.out.1
  rw [hx] at hob
  have HXE:Hid (Pl.offI r (segOf s)=x∧x+(s.da.length:Int)=E):=⟨hx,hE⟩
  go_upto_region 6 with fail
  go_cut [8] (fun v8 wx=>v8=.int .i64 x∧Hid (RiS w wx r k s ks))
  case first =>
   have hsq:=HOK.out.2.2.2.2.sq
   have hir:=HOK.out.2.2.1
   have hn0:=HOK.out.1.n0
   have hnf:r.s.n≤562949953421312:=HOK.out.1.nf
   obtain ⟨a1,ha1⟩:∃ a,Pl.adI s.sq (-r.irs)=a:=⟨_,rfl⟩
   have ha2:0≤a1∧a1≤4294967295:=by rw [← ha1];unfold Pl.adI;omega
   unfold U32 at hsq hir
   have cA:∀ W,Calls Try.prog 38 #[.int .u32 s.sq,.int .i64 (-r.irs)] W fun e w'=>e=.returned (.int .u32 a1)∧w'=W:=fun W=>by have:=zbj s.sq (-r.irs) hsq ⟨by omega,by omega⟩ W;rwa [ha1] at this
   have cU:∀ W,Calls Try.prog 37 #[.int .i64 r.s.n,.int .u32 a1] W fun e w'=>e=.returned (.int .i64 x)∧w'=W:=fun W=>by
    have:=zf1 r.s.n a1 ⟨hn0,by omega⟩ ha2 W
    have e:r.s.n+Pl.dfI (r.s.n % 4294967296) a1=x:=by rw [← hx,← ha1];rfl
    rwa [e] at this
   have HC:Hid (∀ W,Below wc.heap.size wc W→W.cell? ⟨w.heap.size,0,none⟩=some (.int .i64 r.s.n)∧W.cell? ⟨w.heap.size,12,none⟩=some (.int .u32 r.irs)∧W.cell? ⟨w.heap.size+1,2,none⟩=some (.int .u32 s.sq)):=fun W hW=>⟨(HS.out.box.later hW).cell 0 rfl,(HS.out.box.later hW).cell 12 rfl,(HS.out.sg.later hW).cell 2 rfl⟩
   have z1:IntKind.i64.wrap r.irs=r.irs:=by rw [IntKind.wrap_i64];omega
   have z2:IntKind.i64.wrap (-r.irs)=-r.irs:=by rw [IntKind.wrap_i64];omega
   clear hx hE ha1
   go_region_held3 (fun W=>(W.cell? ⟨w.heap.size,0,none⟩=some (.int .i64 r.s.n)∧W.cell? ⟨w.heap.size,12,none⟩=some (.int .u32 r.irs)∧W.cell? ⟨w.heap.size+1,2,none⟩=some (.int .u32 s.sq))∧Below wc.heap.size wc W)
    (refine ⟨HC.out _ ?_,?_⟩<;>(repeat (first|with_reducible exact Below.refl _ _|with_reducible assumption|with_reducible refine Below.drew ?_|with_reducible refine zaa ?_ _)))
    (first
     | (go_at_call 38;refine (cA _).mono ?_;rintro e w' ⟨rfl,rfl⟩)
     | (go_at_call 37;refine (cU _).mono ?_;rintro e w' ⟨rfl,rfl⟩))
   all_goals (
    go_wp2_with fail
    go_meet
    exact ⟨rfl,HS.out.later (Below.drew (Below.refl _ _))⟩)
  case rest =>
   obtain ⟨rfl,HS6⟩:=hcut
   clear HS hx
   obtain ⟨m,hm⟩:∃ m,s.da.length=m:=⟨_,rfl⟩
   rw [hm] at hE
   have hmb:=HOK.out.2.2.2.2.data.1.1
   rw [hm] at hmb
   have d14:wc.cell? ⟨w.heap.size+1,14,none⟩=some (.slice ks.da m ks.dc):=by have:=HS6.out.sg.cell 14 rfl;rw [← hm];exact this
   clear hm
   go_upto_region 8 with fail
   rename_i K1 hgo K2 hin
   clear d14 hE hmb
   go_cut [64] (fun v64 wx=>v64=.bool st∧wx=wc)
   case first =>
    have cD:∀ W,Calls Try.prog 39 #[.int .u32 r.recent,.int .u32 s.va] W fun e w'=>e=.returned (.int .i64 (Pl.dfI r.recent s.va))∧w'=W:=fun W=>zez r.recent s.va HOK.out.2.1 HOK.out.2.2.2.2.va W
    have c7:=HS6.out.box.cell 7 rfl
    have c14:=HS6.out.box.cell 14 rfl
    have c6:=HS6.out.box.cell 6 rfl
    have d11:=HS6.out.sg.cell 11 rfl
    have h3:(r.stamps&&r.stamp&&decide (Pl.dfI r.recent s.va<0))=st:=HRA.out.2.2
    obtain ⟨df,hdf⟩:∃ d,Pl.dfI r.recent s.va=d:=⟨_,rfl⟩
    simp only [hdf] at cD h3
    clear hdf
    rcases (by cases r.stamps<;>simp:r.stamps=true∨r.stamps=false) with h1|h1
    · rcases (by cases r.stamp<;>simp:r.stamp=true∨r.stamp=false) with h2|h2
      · rw [h1] at c7
        rw [h2] at c14
        have e3:decide (df<0)=st:=by rw [← h3,h1,h2];simp
        clear h3 h1 h2
        go_wp2_with fail
        refine (cD _).mono ?_
        rintro e w' ⟨rfl,rfl⟩
        go_wp2_with fail
        go_meet
        exact ⟨by simp [e3],rfl⟩
      · rw [h1] at c7
        rw [h2] at c14
        have e3:st=false:=by rw [← h3,h2];simp
        subst e3
        clear h3 h1 h2
        go_wp2_with fail
        go_meet
        exact ⟨by simp,rfl⟩
    · rw [h1] at c7
      have e3:st=false:=by rw [← h3,h1];simp
      subst e3
      clear h3 h1
      go_wp2_with fail
      go_meet
      exact ⟨by simp,rfl⟩
   case rest =>
    obtain ⟨rfl,rfl⟩:=hcut
    go_upto_if 64 with fail
    cases st with
    | false =>
     go_cut [] (fun wx=>wx=wc)
     case first =>
      go_wp2_with fail
      go_meet
      rfl
     case rest =>
      subst hcut
      refine hgo _ _ ?_
      exact refIn2 r ra k s ks w _ x E bl _ _ _ _ _ _ _ _ _ _ _ _ _ _ _ _ _ _ _ _ _ _ _ _ _ _ _ _ _ _ _ _ _ _ _ _ _ _ _ _ _ _ _ _ _ _ _ _ _ _ _ _ _ _ _ _ _ _ _ _ _ _ _ _ _ _ _ _ _ _ _ _ _ _ _ _ _ _ _ _ _ _ _ _ _ _ _ _ _ _ _ _ _ _ _ _ _ _ _ _ _ _ _ _ _ _ _ _ _ _ _ _ _ _ _ _ _ _ _ _ _ _ _ _ _ _ _ _ _ _ _ _ _ _ _ _ _ _ _ _ _ _ _ _ _ _ _ _ _ _ _ _ _ _ _ _ _ _ _ _ _ _ _ _ _ _ _ _ _ _ _ _ _ _ _ _ _ _ _ _ _ _ _ _ _ _ _ _ _ _ _ _ HOK HS6 ⟨HXE.out.1,HXE.out.2,by simpa using HRA.out.1,by simpa using HRA.out.2.1⟩
    | true =>
     have e1:r=ra:=by simpa using HRA.out.1
     have e2:r.first=bl:=by simpa using HRA.out.2.1
     subst e1;subst e2
     have cT:=refTell_nil r k wc (HS6.out.at HOK.out.1 HOK.out.2.1 HOK.out.2.2.1 HOK.out.2.2.2.1) HOK.out.1
     obtain ⟨R,hR⟩:∃ R,Pl.tellR r=R:=⟨_,rfl⟩
     obtain ⟨T,hT⟩:∃ T,tellS r r.first=T:=⟨_,rfl⟩
     have HE:Hid (Pl.tellR r=R∧tellS r r.first=T):=⟨hR,hT⟩
     rw [hR,hT] at cT
     clear hR hT
     as_aux_lemma =>
      obtain ⟨c0,c1,c2,c3,c4,c5,c6,c7,c8,c9,c10,c11,c12,c13,c14⟩:=Box.c15 HS6.out.box
      go_wp2_with fail
      refine cT.mono ?_
      rintro e w9 ⟨k3,kt,rfl,hO9,hG9,hB9⟩
      clear c0 c1 c2 c3 c4 c5 c6 c7 c8 c9 c10 c11 c12 c13 c14 cT
      have HT:Hid (RvOwn w9 w.heap.size R k3∧SgOwn w9 w.heap.size T kt∧Box w9 (w.heap.size+2) 27 zR∧Box w9 (w.heap.size+3) 34 zS∧Below w.heap.size w w9∧w.heap.size+4≤w9.heap.size):=by
       have h2:=HS6.out.later hB9
       have h3:=h2.zs.lt
       have h4:=HS6.out.bel.size
       exact ⟨hO9.mono (by omega),hG9.mono (by omega),h2.zr,h2.zs,h2.bel,by omega⟩
      clear hO9 hG9 hB9 HS6
      go_upto_region 10 with fail
      obtain ⟨Yb,hYb⟩:∃ Yb,(w9.alloc (.cells #[.int .i64 R.s.n,.slice k3.ua R.s.u.length k3.uc,.slice k3.la k3.es.length k3.lc,.int .i64 R.cap,.int .i64 R.shift,.int .i64 R.edge,.int .u32 R.recent,.bool R.stamps,.bool R.sacks,.int .i64 R.fin,.bool R.dn,.slice k3.fa R.first.length k3.fc,.int .u32 R.irs,.int .u32 R.own,.bool R.stamp] 27)).alloc (.cells #[.int .i64 T.sp,.int .i64 T.dp,.int .u32 T.sq,.int .u32 T.ak,.int .i64 T.fl,.int .i64 T.wn,.int .i64 T.ur,.int .i64 T.ms,.int .i64 T.sc,.bool T.so,.bool T.st,.int .u32 T.va,.int .u32 T.ec,.slice kt.ka T.sk.length kt.kc,.slice kt.da T.da.length kt.dc] 34)=Yb:=⟨_,rfl⟩
      have bYb:Below w9.heap.size w9 Yb:=by rw [← hYb];exact zaa (zaa (Below.refl _ _) _) _
      have x1:Box Yb w9.heap.size 27 (rvL R k3):=by rw [← hYb];exact (Box.new w9 27 (rvL R k3)).alloc _
      have x2:Box Yb (w9.heap.size+1) 34 [.int .i64 T.sp,.int .i64 T.dp,.int .u32 T.sq,.int .u32 T.ak,.int .i64 T.fl,.int .i64 T.wn,.int .i64 T.ur,.int .i64 T.ms,.int .i64 T.sc,.bool T.so,.bool T.st,.int .u32 T.va,.int .u32 T.ec,.slice kt.ka T.sk.length kt.kc,.slice kt.da T.da.length kt.dc]:=by rw [← hYb];have:=Box.new (w9.alloc (.cells #[.int .i64 R.s.n,.slice k3.ua R.s.u.length k3.uc,.slice k3.la k3.es.length k3.lc,.int .i64 R.cap,.int .i64 R.shift,.int .i64 R.edge,.int .u32 R.recent,.bool R.stamps,.bool R.sacks,.int .i64 R.fin,.bool R.dn,.slice k3.fa R.first.length k3.fc,.int .u32 R.irs,.int .u32 R.own,.bool R.stamp] 27)) 34 (sgL T kt);rwa [World.size_alloc] at this
      have HYb:Hid (Box Yb w9.heap.size 27 (rvL R k3)∧Box Yb (w9.heap.size+1) 34 [.int .i64 T.sp,.int .i64 T.dp,.int .u32 T.sq,.int .u32 T.ak,.int .i64 T.fl,.int .i64 T.wn,.int .i64 T.ur,.int .i64 T.ms,.int .i64 T.sc,.bool T.so,.bool T.st,.int .u32 T.va,.int .u32 T.ec,.slice kt.ka T.sk.length kt.kc,.slice kt.da T.da.length kt.dc]∧Box Yb (w.heap.size+2) 27 zR∧Box Yb (w.heap.size+3) 34 zS∧RvOwn Yb w.heap.size R k3∧SgOwn Yb w.heap.size T kt∧Below w.heap.size w Yb∧w.heap.size+4≤w9.heap.size) :=
       ⟨x1,x2,HT.out.2.2.1.later bYb,HT.out.2.2.2.1.later bYb,HT.out.1.later bYb,HT.out.2.1.later bYb,Below.on HT.out.2.2.2.2.1 bYb,HT.out.2.2.2.2.2⟩
      rw [hYb]
      clear hYb bYb x1 x2 HT
      obtain ⟨S,hS⟩:∃ S:World→Prop,S=fun W=>Box W w9.heap.size 27 (rvL R k3)∧Box W (w9.heap.size+1) 34 [.int .i64 T.sp,.int .i64 T.dp,.int .u32 T.sq,.int .u32 T.ak,.int .i64 T.fl,.int .i64 T.wn,.int .i64 T.ur,.int .i64 T.ms,.int .i64 T.sc,.bool T.so,.bool T.st,.int .u32 T.va,.int .u32 T.ec,.slice kt.ka T.sk.length kt.kc,.slice kt.da T.da.length kt.dc]:=⟨_,rfl⟩
      have y0:∀ {ps:String} (ev:Operand→Value),ev (.tmp 10)=.pointer (some ⟨w9.heap.size,0,none⟩)→∀ W,S W→(execOp ev ⟨some 70,.load 27 (.tmp 10),27,ps,#[],none⟩).run Try.prog W=.ok (.value (.agg #[.int .i64 R.s.n,.slice k3.ua R.s.u.length k3.uc,.slice k3.la k3.es.length k3.lc,.int .i64 R.cap,.int .i64 R.shift,.int .i64 R.edge,.int .u32 R.recent,.bool R.stamps,.bool R.sacks,.int .i64 R.fin,.bool R.dn,.slice k3.fa R.first.length k3.fc,.int .u32 R.irs,.int .u32 R.own,.bool R.stamp])) W:=by
       intro ps ev h0 W hSw
       rw [hS] at hSw
       obtain ⟨c0,c1,c2,c3,c4,c5,c6,c7,c8,c9,c10,c11,c12,c13,c14⟩:=Box.c15 hSw.1
       first|(go_simp;done)|(go_simp;with_reducible rfl)
      have y1:∀ {ps:String} (ev:Operand→Value),ev (.tmp 11)=.pointer (some ⟨w9.heap.size+1,0,none⟩)→∀ W,S W→(execOp ev ⟨some 71,.load 34 (.tmp 11),34,ps,#[⟨2,.gcOnly .lateStores⟩],none⟩).run Try.prog W=.ok (.value (.agg #[.int .i64 T.sp,.int .i64 T.dp,.int .u32 T.sq,.int .u32 T.ak,.int .i64 T.fl,.int .i64 T.wn,.int .i64 T.ur,.int .i64 T.ms,.int .i64 T.sc,.bool T.so,.bool T.st,.int .u32 T.va,.int .u32 T.ec,.slice kt.ka T.sk.length kt.kc,.slice kt.da T.da.length kt.dc])) W:=by
       intro ps ev h0 W hSw
       rw [hS] at hSw
       obtain ⟨c0,c1,c2,c3,c4,c5,c6,c7,c8,c9,c10,c11,c12,c13,c14⟩:=Box.c15 hSw.2
       first|(go_simp;done)|(go_simp;with_reducible rfl)
      have y4:∀ {ps:String} (ev:Operand→Value),ev (.const (.bool true))=.bool true→∀ W,S W→(execOp ev ⟨some 6,.assign (.const (.bool true)),4,ps,#[⟨3,.chain⟩,⟨0,.phase⟩,⟨1,.phase⟩,⟨2,.phase⟩,⟨3,.phase⟩],none⟩).run Try.prog W=.ok (.value (.bool true)) W:=by
       intro ps ev h0 W hSw
       rw [hS] at hSw
       try dsimp only at hSw
       first|(go_simp;done)|(go_simp;with_reducible rfl)
      have hdr:Below Yb.heap.size Yb Yb.drew:=Below.drew (Below.refl _ _)
      have hSd:S Yb.drew:=by rw [hS];exact ⟨HYb.out.1.later hdr,HYb.out.2.1.later hdr⟩
      have z1:=HYb.out.2.2.1.later hdr
      have z2:=HYb.out.2.2.2.1.later hdr
      have sz:=HYb.out.2.2.2.2.2.2.2
      obtain ⟨X3,hX3⟩:∃ X3,setAll Yb.drew (w.heap.size+2) 0 (rvL R k3)=X3:=⟨_,rfl⟩
      have hS3:S X3:=by rw [hS,← hX3];exact ⟨(HYb.out.1.later hdr).putAside _ _ _ (by omega),(HYb.out.2.1.later hdr).putAside _ _ _ (by omega)⟩
      have z3:Box X3 (w.heap.size+2) 27 (rvL R k3):=by rw [← hX3];exact z1.put _ rfl
      have z4:Box X3 (w.heap.size+3) 34 zS:=by rw [← hX3];exact z2.putAside _ _ _ (by omega)
      obtain ⟨X5,hX5⟩:∃ X5,setAll X3 (w.heap.size+3) 0 (sgL T kt)=X5:=⟨_,rfl⟩
      have hS5:S X5:=by
       rw [hS] at hS3 ⊢
       rw [← hX5];exact ⟨hS3.1.putAside _ _ _ (by omega),hS3.2.putAside _ _ _ (by omega)⟩
      have HF:Hid (Box X5 (w.heap.size+2) 27 (rvL R k3)∧Box X5 (w.heap.size+3) 34 (sgL T kt)∧RvOwn X5 w.heap.size R k3∧SgOwn X5 w.heap.size T kt∧Below w.heap.size w X5):=by
       rw [← hX5]
       refine ⟨z3.putAside _ _ _ (by omega),z4.put _ rfl,RvOwn.besideS ?_ z4 0 _,SgOwn.besideS ?_ z4 0 _,zaf (by omega) ?_⟩
       · rw [← hX3];exact (HYb.out.2.2.2.2.1.later hdr).besideR z1 0 _
       · have hg:=HYb.out.2.2.2.2.2.1.later hdr
         rw [← hX3];exact { hg with row:=zav hg.row z1 (by decide) _ _}
       · rw [← hX3];exact zaf (by omega) (Below.on HYb.out.2.2.2.2.2.2.1 hdr)
      have HXY:Hid (setAll Yb.drew (w.heap.size+2) 0 (rvL R k3)=X3∧setAll X3 (w.heap.size+3) 0 (sgL T kt)=X5):=⟨hX3,hX5⟩
      clear hX3 hX5 z3 z2 sz HYb hdr
      refine zaq S 5 (by kernel_rfl) hSd (fun hHeld=>?_)
      refine zk 0 (y0 _ rfl) ?_
      try simp only [Act.put,qA,qZ,qS]
      refine zk 1 (y1 _ rfl) ?_
      try simp only [Act.put,qA,qZ,qS]
      refine zah (i:=2) (o:=⟨none,.store 27 (.tmp 4) (.tmp 70),0,_,#[⟨0,.data⟩,⟨0,.phase⟩,⟨1,.textOnly .lateStores⟩],none⟩) (by kernel_rfl) rfl (fun K hK=>?_)
      refine zbx rfl (.tmp 4) (.tmp 70) rfl R k3 (w.heap.size+2) (cs:=zR) rfl rfl rfl z1 HXY.out.1 (fun v=>?_)
      refine hK.out _ _ ⟨fun _=>hS3,?_⟩
      clear hK K hHeld hSd
      try simp only [Act.put,qA,qZ,qS]
      refine zah (i:=3) (o:=⟨none,.store 34 (.tmp 5) (.tmp 71),0,_,#[⟨1,.data⟩,⟨2,.chain⟩,⟨0,.phase⟩,⟨1,.phase⟩,⟨2,.phase⟩],none⟩) (by kernel_rfl) rfl (fun K hK=>?_)
      refine zd5 rfl (.tmp 5) (.tmp 71) rfl T kt (w.heap.size+3) (cs:=zS) rfl rfl rfl z4 HXY.out.2 (fun v=>?_)
      refine hK.out _ _ ⟨fun _=>hS5,?_⟩
      clear hK K
      try simp only [Act.put,qA,qZ,qS]
      refine zk 4 (y4 _ rfl) ?_
      try simp only [Act.put,qA,qZ,qS]
      refine zah (i:=5) (o:=⟨some 7,.assign (.const (.int .i64 0)),3,_,#[⟨4,.chain⟩,⟨0,.phase⟩,⟨1,.phase⟩,⟨2,.phase⟩,⟨3,.phase⟩,⟨4,.phase⟩],none⟩) (by kernel_rfl) rfl (fun K hK=>?_)
      rw [if_pos (by rfl)]
      go_simp
      refine hK.out _ _ ⟨fun h=>absurd rfl h,?_⟩
      clear hK K
      refine zax (by kernel_rfl) ?_ _
      try simp only [Act.put,qA,qZ,qS]
      clear z1 z4 hS3 hS5 y0 y1 y4 hS HXY
      go_wp2_with fail
      refine bodyPost_ret (zcq rfl _ _ (w.heap.size+2) (w.heap.size+3) _ _ rfl rfl rfl rfl HF.out.1 HF.out.2.1) rfl ?_
      unfold zej
      rw [HE.out.1,HE.out.2]
      exact ⟨k3,kt,rfl,HF.out.2.2.1,HF.out.2.2.2.1,HF.out.2.2.2.2⟩
end Go.Proofs.Ytkigcdmlkmcdcaa
