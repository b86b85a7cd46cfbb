/- The document's tell. -/
import Derived.Test.YtkigcdmlkmcdcaaQZ
import Derived.Test.YtkigcdmlkmcdcaaQMRefTlP
import Derived.Deep.CutBlock
namespace Go.Proofs.Ytkigcdmlkmcdcaa
open Go.ChangeShapes Go.WideShapes Go.ChangeAt Go.RowKit
set_option linter.unusedVariables false
set_option linter.unusedSimpArgs false
set_option maxRecDepth 100000 in
set_option maxHeartbeats 8000000 in
theorem zga (rn cap shift edge recent fin irs own:Int) (stamps sacks dn stamp:Bool) (ua:Option Addr) (u uc:Nat) (la:Option Addr) (n lc:Nat) (fa:Option Addr) (m fc:Nat) (r:Pl.Rv) (ba:Option Addr) (bn bc:Nat) (bl:List (Int×Int)) (Bk:Nat) (w:World) (wd wn nn ak ec eg:Int) (fl:List Tm) (sk:List (Int×Int)) (L:Nat)
 (cW:∀ W,Calls Try.prog 48 #[.agg #[.int .i64 rn,.slice ua u uc,.slice la n lc,.int .i64 cap,.int .i64 shift,.int .i64 edge,.int .u32 recent,.bool stamps,.bool sacks,.int .i64 fin,.bool dn,.slice fa m fc,.int .u32 irs,.int .u32 own,.bool stamp]] W fun e w'=>e=.returned (.int .i64 wd)∧Below W.heap.size W w')
 (cA:∀ W,Calls Try.prog 38 #[.int .u32 irs,.int .i64 nn] W fun e w'=>e=.returned (.int .u32 ak)∧w'=W)
 (cX:∀ x∈fl,∀ W,(Calls Try.prog 38 #[.int .u32 irs,.int .i64 x.1] W fun e w'=>e=.returned (.int .u32 (Pl.adI irs x.1))∧w'=W)∧Calls Try.prog 38 #[.int .u32 irs,.int .i64 x.2] W fun e w'=>e=.returned (.int .u32 (Pl.adI irs x.2))∧w'=W)
 (cC:∀ U,Chg (lies ba) w U→Calls Try.prog 36 #[.agg #[.int .i64 rn,.slice ua u uc,.slice la n lc,.int .i64 cap,.int .i64 shift,.int .i64 edge,.int .u32 recent,.bool stamps,.bool sacks,.int .i64 fin,.bool dn,.slice fa m fc,.int .u32 irs,.int .u32 own,.bool stamp]] U fun e w'=>∃ ua1 uc1 la1 lc1 es1 fa1 fc1,e=.returned (.agg #[.int .i64 rn,.slice ua1 u uc1,.slice la1 n lc1,.int .i64 cap,.int .i64 shift,.int .i64 edge,.int .u32 recent,.bool stamps,.bool sacks,.int .i64 fin,.bool dn,.slice fa1 m fc1,.int .u32 irs,.int .u32 own,.bool stamp])∧RvOwn w' U.heap.size r ⟨ua1,uc1,la1,lc1,es1,fa1,fc1⟩∧Below U.heap.size U w')
 (hfl:∀ U,Chg (lies ba) w U→SpAt U fa fc fl) (hflm:fl.length=m) (hrow:RowB w Bk ba bn bc bl) (hBk:Bk≤w.heap.size) (hbn:bn≤3)
 (hwn:wd / (2:Int) ^ shift.toNat=wn) (hwb:0≤wd∧wd≤1073741824) (hnb:0≤rn∧rn≤562949953421312) (hsb:0≤shift∧shift≤14) (he:0≤edge∧edge≤2251799813685248)
 (hnn:(if dn=true then rn+1 else rn)=nn) (hsk:refSk irs stamps sacks bl fl=sk) (hL:sk.length=L) (hec:(if stamps=true then recent else 0)=ec) (heg:Pl.maxJ edge (rn+wd)=eg) :
 Calls Try.prog 40 #[.agg #[.int .i64 rn,.slice ua u uc,.slice la n lc,.int .i64 cap,.int .i64 shift,.int .i64 edge,.int .u32 recent,.bool stamps,.bool sacks,.int .i64 fin,.bool dn,.slice fa m fc,.int .u32 irs,.int .u32 own,.bool stamp],.slice ba bn bc] w fun e w'=>∃ ua1 uc1 la1 lc1 es1 fa1 fc1 ka kc,e=.returned (.tuple #[.agg #[.int .i64 rn,.slice ua1 u uc1,.slice la1 n lc1,.int .i64 cap,.int .i64 shift,.int .i64 eg,.int .u32 recent,.bool stamps,.bool sacks,.int .i64 fin,.bool dn,.slice fa1 m fc1,.int .u32 irs,.int .u32 own,.bool stamp],.agg #[.int .i64 0,.int .i64 0,.int .u32 own,.int .u32 ak,.int .i64 16,.int .i64 wn,.int .i64 0,.int .i64 (-1),.int .i64 (-1),.bool false,.bool stamps,.int .u32 0,.int .u32 ec,.slice ka L kc,.slice none 0 0]])∧RvOwn w' w.heap.size r ⟨ua1,uc1,la1,lc1,es1,fa1,fc1⟩∧RowB w' Bk ka L kc sk∧(∀ k,lies ka k→lies ba k∨w.heap.size+3≤k)∧Chg (lies ba) w w':=by
 obtain ⟨W0,hW0⟩:∃ W0,((w.alloc (.cells #[.int .i64 rn,.slice ua u uc,.slice la n lc,.int .i64 cap,.int .i64 shift,.int .i64 edge,.int .u32 recent,.bool stamps,.bool sacks,.int .i64 fin,.bool dn,.slice fa m fc,.int .u32 irs,.int .u32 own,.bool stamp] 27)).alloc (.cells zR.toArray 27)).alloc (.cells zS.toArray 34)=W0:=⟨_,rfl⟩
 obtain ⟨hX,hZ,hZS,hs0,b0⟩:Box W0 w.heap.size 27 [.int .i64 rn,.slice ua u uc,.slice la n lc,.int .i64 cap,.int .i64 shift,.int .i64 edge,.int .u32 recent,.bool stamps,.bool sacks,.int .i64 fin,.bool dn,.slice fa m fc,.int .u32 irs,.int .u32 own,.bool stamp]∧Box W0 (w.heap.size+1) 27 zR∧Box W0 (w.heap.size+1+1) 34 zS∧W0.heap.size=w.heap.size+3∧Below w.heap.size w W0:=by rw [← hW0];exact boxes3 w [.int .i64 rn,.slice ua u uc,.slice la n lc,.int .i64 cap,.int .i64 shift,.int .i64 edge,.int .u32 recent,.bool stamps,.bool sacks,.int .i64 fin,.bool dn,.slice fa m fc,.int .u32 irs,.int .u32 own,.bool stamp]
 have HX:Hid (Box W0 w.heap.size 27 [.int .i64 rn,.slice ua u uc,.slice la n lc,.int .i64 cap,.int .i64 shift,.int .i64 edge,.int .u32 recent,.bool stamps,.bool sacks,.int .i64 fin,.bool dn,.slice fa m fc,.int .u32 irs,.int .u32 own,.bool stamp]∧Box W0 (w.heap.size+1) 27 zR∧Box W0 (w.heap.size+1+1) 34 zS∧W0.heap.size=w.heap.size+3∧Below w.heap.size w W0):=⟨hX,hZ,hZS,hs0,b0⟩
 have HE:Hid (refSk irs stamps sacks bl fl=sk∧sk.length=L∧(if stamps=true then recent else 0)=ec∧Pl.maxJ edge (rn+wd)=eg∧(if dn=true then rn+1 else rn)=nn):=⟨hsk,hL,hec,heg,hnn⟩
 have HC:Hid (∀ U,Chg (lies ba) w U→Calls Try.prog 36 #[.agg #[.int .i64 rn,.slice ua u uc,.slice la n lc,.int .i64 cap,.int .i64 shift,.int .i64 edge,.int .u32 recent,.bool stamps,.bool sacks,.int .i64 fin,.bool dn,.slice fa m fc,.int .u32 irs,.int .u32 own,.bool stamp]] U fun e w'=>∃ ua1 uc1 la1 lc1 es1 fa1 fc1,e=.returned (.agg #[.int .i64 rn,.slice ua1 u uc1,.slice la1 n lc1,.int .i64 cap,.int .i64 shift,.int .i64 edge,.int .u32 recent,.bool stamps,.bool sacks,.int .i64 fin,.bool dn,.slice fa1 m fc1,.int .u32 irs,.int .u32 own,.bool stamp])∧RvOwn w' U.heap.size r ⟨ua1,uc1,la1,lc1,es1,fa1,fc1⟩∧Below U.heap.size U w'):=cC
 have HFL:Hid ((∀ U,Chg (lies ba) w U→SpAt U fa fc fl)∧fl.length=m):=⟨hfl,hflm⟩
 have HAD:Hid (∀ x∈fl,∀ W,(Calls Try.prog 38 #[.int .u32 irs,.int .i64 x.1] W fun e w'=>e=.returned (.int .u32 (Pl.adI irs x.1))∧w'=W)∧Calls Try.prog 38 #[.int .u32 irs,.int .i64 x.2] W fun e w'=>e=.returned (.int .u32 (Pl.adI irs x.2))∧w'=W):=cX
 have HRW:Hid (RowB w Bk ba bn bc bl∧Bk≤w.heap.size):=⟨hrow,hBk⟩
 have HK:Hid (∀ W,Below W0.heap.size W0 W→W.cell? ⟨w.heap.size,0,none⟩=some (.int .i64 rn)∧W.cell? ⟨w.heap.size,1,none⟩=some (.slice ua u uc)∧W.cell? ⟨w.heap.size,2,none⟩=some (.slice la n lc)∧W.cell? ⟨w.heap.size,3,none⟩=some (.int .i64 cap)∧W.cell? ⟨w.heap.size,4,none⟩=some (.int .i64 shift)∧W.cell? ⟨w.heap.size,5,none⟩=some (.int .i64 edge)∧W.cell? ⟨w.heap.size,6,none⟩=some (.int .u32 recent)∧W.cell? ⟨w.heap.size,7,none⟩=some (.bool stamps)∧W.cell? ⟨w.heap.size,8,none⟩=some (.bool sacks)∧W.cell? ⟨w.heap.size,9,none⟩=some (.int .i64 fin)∧W.cell? ⟨w.heap.size,10,none⟩=some (.bool dn)∧W.cell? ⟨w.heap.size,11,none⟩=some (.slice fa m fc)∧W.cell? ⟨w.heap.size,12,none⟩=some (.int .u32 irs)∧W.cell? ⟨w.heap.size,13,none⟩=some (.int .u32 own)∧W.cell? ⟨w.heap.size,14,none⟩=some (.bool stamp)∧Below W0.heap.size W0 W):=fun W hW=>by
  obtain ⟨q0,q1,q2,q3,q4,q5,q6,q7,q8,q9,q10,q11,q12,q13,q14⟩:=Box.c15 (hX.later hW)
  exact ⟨q0,q1,q2,q3,q4,q5,q6,q7,q8,q9,q10,q11,q12,q13,q14,hW⟩
 have hshr:IntKind.i64.wrap wn=wn:=by
  have h2:=Pl.two_pos shift.toNat
  have h3:0≤wn:=by rw [← hwn];exact Int.ediv_nonneg hwb.1 (by omega)
  have h4:wn≤wd:=by
   rw [← hwn]
   exact Int.ediv_le_self _ hwb.1
  rw [IntKind.wrap_i64];omega
 have hcv:IntKind.u64.wrap shift=shift:=by simp [IntKind.wrap,IntKind.signed,IntKind.bits];omega
 have hfm:m*16≤140737488351232:=by have:=(hfl w (Chg.of_below (Below.refl _ _))).reach;omega
 obtain ⟨c0,c1,c2,c3,c4,c5,c6,c7,c8,c9,c10,c11,c12,c13,c14,_⟩:=HK.out W0 (Below.refl _ _)
 clear hX hZ hZS hs0 b0 cC hfl hflm cX hrow hBk hsk hL hec heg hnn
 go_enter Try.func40,Try.ntmps40
 go_upto_if 14 with fail
 clear hW0
 go_cut [6] (fun v6 wx=>v6=.int .i64 nn∧wx=W0)
 case first =>
  have hnn:=HE.out.2.2.2.2
  cases dn with
  | true =>
   have e1:rn+1=nn:=by simpa using hnn
   have hwr:IntKind.i64.wrap (rn+1)=nn:=by rw [IntKind.wrap_i64];omega
   clear hnn e1
   go_wp2_with fail
   go_meet
   exact ⟨rfl,rfl⟩
  | false =>
   have HE1:Hid (rn=nn):=by unfold Hid;simpa using hnn
   clear hnn
   go_wp2_with fail
   go_meet
   exact ⟨by rw [HE1.out],rfl⟩
 case rest =>
  obtain ⟨rfl,hw⟩:=hcut
  obtain rfl:=hw.symm
  clear hw
  go_upto_region 4 with fail
  clear c0 c1 c2 c3 c4 c5 c6 c7 c8 c9 c10 c11 c12 c13 c14
  go_cut [7] (fun v7 wx=>∃ p:Nat,v7=.pointer (some ⟨p,0,none⟩)∧Hid (TelTo w wx Bk (lies ba) [.int .i64 rn,.slice ua u uc,.slice la n lc,.int .i64 cap,.int .i64 shift,.int .i64 edge,.int .u32 recent,.bool stamps,.bool sacks,.int .i64 fin,.bool dn,.slice fa m fc,.int .u32 irs,.int .u32 own,.bool stamp] p own ak wn false 0 ba bn bc bl))
  case first =>
   obtain ⟨S,hS⟩:∃ S:World→Prop,S=fun W=>W.cell? ⟨w.heap.size,0,none⟩=some (.int .i64 rn)∧W.cell? ⟨w.heap.size,1,none⟩=some (.slice ua u uc)∧W.cell? ⟨w.heap.size,2,none⟩=some (.slice la n lc)∧W.cell? ⟨w.heap.size,3,none⟩=some (.int .i64 cap)∧W.cell? ⟨w.heap.size,4,none⟩=some (.int .i64 shift)∧W.cell? ⟨w.heap.size,5,none⟩=some (.int .i64 edge)∧W.cell? ⟨w.heap.size,6,none⟩=some (.int .u32 recent)∧W.cell? ⟨w.heap.size,7,none⟩=some (.bool stamps)∧W.cell? ⟨w.heap.size,8,none⟩=some (.bool sacks)∧W.cell? ⟨w.heap.size,9,none⟩=some (.int .i64 fin)∧W.cell? ⟨w.heap.size,10,none⟩=some (.bool dn)∧W.cell? ⟨w.heap.size,11,none⟩=some (.slice fa m fc)∧W.cell? ⟨w.heap.size,12,none⟩=some (.int .u32 irs)∧W.cell? ⟨w.heap.size,13,none⟩=some (.int .u32 own)∧W.cell? ⟨w.heap.size,14,none⟩=some (.bool stamp):=⟨_,rfl⟩
   have HSK:Hid (∀ W,Below W0.heap.size W0 W→S W):=fun W hW=>by
    rw [hS]
    exact Box.c15 (HX.out.1.later hW)
   obtain ⟨y11,y13,y0,y1,y2,y3,y4,y6,y8,y9,y10,y12⟩:(∀ {ps} (ev:EV),ev (.tmp 24)=.int .i64 wd→ev (.tmp 27)=.int .u64 shift→Yl Try.prog S ev ⟨some 28,.binOp .shr 3 (.tmp 24) (.tmp 27) 39,3,ps,#[⟨7,.data⟩,⟨10,.data⟩],none⟩ ((.int .i64 wn)))∧(∀ {ps} (ev:EV),ev (.tmp 18)=.int .u32 own→ev (.tmp 22)=.int .u32 ak→ev (.tmp 28)=.int .i64 wn→ev (.tmp 29)=.slice ba bn bc→ev (.const (.int .i64 16))=.int .i64 16→ev (.const (.int .i64 (-1)))=.int .i64 (-1)→Yl Try.prog S ev ⟨some 30,.build 34 #[(2,.tmp 18),(3,.tmp 22),(4,.const (.int .i64 16)),(5,.tmp 28),(7,.const (.int .i64 (-1))),(8,.const (.int .i64 (-1))),(13,.tmp 29)],34,ps,#[⟨1,.data⟩,⟨5,.data⟩,⟨11,.data⟩,⟨12,.data⟩],none⟩ ((.agg #[.int .i64 0,.int .i64 0,.int .u32 own,.int .u32 ak,.int .i64 16,.int .i64 wn,.int .i64 0,.int .i64 (-1),.int .i64 (-1),.bool false,.bool false,.int .u32 0,.int .u32 0,.slice ba bn bc,.slice none 0 0])))∧(∀ {ps} (ev:EV),ev (.tmp 2)=.pointer (some ⟨w.heap.size,0,none⟩)→Yl Try.prog S ev ⟨some 17,.fieldAddr 27 (.tmp 2) 13,0,ps,#[],none⟩ ((.pointer (some ⟨w.heap.size,13,none⟩))))∧(∀ {ps} (ev:EV),ev (.tmp 17)=.pointer (some ⟨w.heap.size,13,none⟩)→Yl Try.prog S ev ⟨some 18,.load 24 (.tmp 17),24,ps,#[⟨0,.data⟩],none⟩ ((.int .u32 own)))∧(∀ {ps} (ev:EV),ev (.tmp 2)=.pointer (some ⟨w.heap.size,0,none⟩)→Yl Try.prog S ev ⟨some 19,.fieldAddr 27 (.tmp 2) 12,0,ps,#[],none⟩ ((.pointer (some ⟨w.heap.size,12,none⟩))))∧(∀ {ps} (ev:EV),ev (.tmp 19)=.pointer (some ⟨w.heap.size,12,none⟩)→Yl Try.prog S ev ⟨some 20,.load 24 (.tmp 19),24,ps,#[⟨2,.data⟩],none⟩ ((.int .u32 irs)))∧(∀ {ps} (ev:EV),ev (.tmp 6)=.int .i64 nn→Yl Try.prog S ev ⟨some 21,.move (.tmp 6),3,ps,#[],none⟩ ((.int .i64 nn)))∧(∀ {ps} (ev:EV),ev (.tmp 2)=.pointer (some ⟨w.heap.size,0,none⟩)→Yl Try.prog S ev ⟨some 23,.load 27 (.tmp 2),27,ps,#[],none⟩ ((.agg #[.int .i64 rn,.slice ua u uc,.slice la n lc,.int .i64 cap,.int .i64 shift,.int .i64 edge,.int .u32 recent,.bool stamps,.bool sacks,.int .i64 fin,.bool dn,.slice fa m fc,.int .u32 irs,.int .u32 own,.bool stamp])))∧(∀ {ps} (ev:EV),ev (.tmp 2)=.pointer (some ⟨w.heap.size,0,none⟩)→Yl Try.prog S ev ⟨some 25,.fieldAddr 27 (.tmp 2) 4,0,ps,#[],none⟩ ((.pointer (some ⟨w.heap.size,4,none⟩))))∧(∀ {ps} (ev:EV),ev (.tmp 25)=.pointer (some ⟨w.heap.size,4,none⟩)→Yl Try.prog S ev ⟨some 26,.load 3 (.tmp 25),3,ps,#[⟨8,.data⟩],none⟩ ((.int .i64 shift)))∧(∀ {ps} (ev:EV),ev (.tmp 26)=.int .i64 shift→Yl Try.prog S ev ⟨some 27,.convert 3 39 (.tmp 26),39,ps,#[⟨9,.data⟩],none⟩ ((.int .u64 shift)))∧(∀ {ps} (ev:EV),ev (.tmp 1)=.slice ba bn bc→Yl Try.prog S ev ⟨some 29,.move (.tmp 1),32,ps,#[],none⟩ ((.slice ba bn bc))):=by
    refine ⟨?_,?_,?_,?_,?_,?_,?_,?_,?_,?_,?_,?_⟩<;>(intros;intro W hSw;rw [hS] at hSw;(try dsimp only at hSw);go_simp<;>with_reducible rfl)
   refine zaq S 15 (by kernel_rfl) (HSK.out _ (Below.drew (Below.refl _ _))) (fun hHeld=>?_)
   refine zk 0 (y0 _ rfl) ?_
   try simp only [Act.put,qA,qZ,qS]
   refine zk 1 (y1 _ rfl) ?_
   try simp only [Act.put,qA,qZ,qS]
   refine zk 2 (y2 _ rfl) ?_
   try simp only [Act.put,qA,qZ,qS]
   refine zk 3 (y3 _ rfl) ?_
   try simp only [Act.put,qA,qZ,qS]
   refine zk 4 (y4 _ rfl) ?_
   try simp only [Act.put,qA,qZ,qS]
   refine zk 6 (y6 _ rfl) ?_
   try simp only [Act.put,qA,qZ,qS]
   refine zk 8 (y8 _ rfl) ?_
   try simp only [Act.put,qA,qZ,qS]
   refine zk 9 (y9 _ rfl) ?_
   try simp only [Act.put,qA,qZ,qS]
   refine zk 10 (y10 _ rfl) ?_
   try simp only [Act.put,qA,qZ,qS]
   refine zk 12 (y12 _ rfl) ?_
   try simp only [Act.put,qA,qZ,qS]
   clear hHeld
   refine zfg (i:=5) (j:=14) (o:=⟨some 22,.call { callee:=.value (.func 38),args:=#[.tmp 20,.tmp 21],argTypes:=#[24,3]},24,_,#[⟨3,.data⟩,⟨4,.data⟩],none⟩) (o':=⟨some 7,.alloc 34,0,_,#[],none⟩) (by kernel_rfl) rfl rfl (fun K hK=>?_) (fun K hK=>?_)
   · have _:=trivial
     rw [if_pos (by rfl)]
     go_simp
     refine (cA _).mono ?_
     rintro e w1 ⟨rfl,hw1⟩
     obtain rfl:=hw1.symm
     refine hK.out _ _ ⟨fun _=>HSK.out _ (by repeat (first|with_reducible exact Below.refl _ _|with_reducible assumption|with_reducible refine Below.drew ?_|with_reducible refine zad ?_ _|with_reducible refine zaa ?_ _)),?_⟩
     clear hK K
     try simp only [Act.put,qA,qZ,qS]
     refine zfg (i:=7) (j:=14) (o:=⟨some 24,.call { callee:=.value (.func 48),args:=#[.tmp 23],argTypes:=#[27]},3,_,#[⟨6,.data⟩,⟨5,.chain⟩],none⟩) (o':=⟨some 7,.alloc 34,0,_,#[],none⟩) (by kernel_rfl) rfl rfl (fun K hK=>?_) (fun K hK=>?_)
     · have _:=trivial
       rw [if_pos (by rfl)]
       go_simp
       refine (cW _).mono ?_
       rintro e w2 ⟨rfl,hB2⟩
       have hb2:Below W0.heap.size W0 w2:=Below.on (by repeat (first|with_reducible exact Below.refl _ _|with_reducible assumption|with_reducible refine Below.drew ?_|with_reducible refine zad ?_ _|with_reducible refine zaa ?_ _)) hB2
       have hHeld2:=HSK.out _ hb2
       refine hK.out _ _ ⟨fun _=>hHeld2,?_⟩
       clear hK K
       try simp only [Act.put,qA,qZ,qS]
       refine zk 11 (y11 _ rfl rfl) ?_
       try simp only [Act.put,qA,qZ,qS]
       refine zk 13 (y13 _ rfl rfl rfl rfl rfl rfl) ?_
       try simp only [Act.put,qA,qZ,qS]
       refine zah (i:=14) (o:=⟨some 7,.alloc 34,0,_,#[],none⟩) (by kernel_rfl) rfl (fun K hK=>?_)
       rw [if_pos (by rfl)]
       go_simp
       obtain ⟨Xa,hXa⟩:∃ Xa,w2.alloc (.cells zS.toArray 34)=Xa:=⟨_,rfl⟩
       have bXa:Below W0.heap.size W0 Xa:=by rw [← hXa];exact zaa hb2 _
       have hzX:Box Xa w2.heap.size 34 zS:=by rw [← hXa];exact Box.new w2 34 zS
       try rw [hXa]
       refine hK.out _ _ ⟨fun _=>HSK.out _ bXa,?_⟩
       clear hK K hXa
       try simp only [Act.put,qA,qZ,qS]
       refine zah (i:=15) (o:=⟨none,.store 34 (.tmp 7) (.tmp 30),0,_,#[⟨14,.data⟩,⟨13,.data⟩,⟨7,.chain⟩,⟨0,.phase⟩,⟨1,.phase⟩,⟨2,.phase⟩,⟨3,.phase⟩,⟨4,.phase⟩,⟨5,.phase⟩,⟨6,.phase⟩,⟨7,.phase⟩,⟨8,.phase⟩,⟨9,.phase⟩,⟨10,.phase⟩,⟨11,.phase⟩,⟨12,.phase⟩,⟨13,.phase⟩,⟨14,.phase⟩],none⟩) (by kernel_rfl) rfl (fun K hK=>?_)
       obtain ⟨X9,hX9⟩:∃ X9,setAll Xa w2.heap.size 0 [.int .i64 0,.int .i64 0,.int .u32 own,.int .u32 ak,.int .i64 16,.int .i64 wn,.int .i64 0,.int .i64 (-1),.int .i64 (-1),.bool false,.bool false,.int .u32 0,.int .u32 0,.slice ba bn bc,.slice none 0 0]=X9:=⟨_,rfl⟩
       refine zd6 rfl (.tmp 7) (.tmp 30) rfl own ak wn false 0 ba bn bc w2.heap.size rfl rfl rfl hzX hX9 (fun v=>?_)
       refine hK.out _ _ ⟨fun h=>absurd rfl h,?_⟩
       clear hK K
       refine zax (by kernel_rfl) ?_ _
       try simp only [Act.put,qA,qZ,qS]
       have HFX:Hid (TelTo w X9 Bk (lies ba) [.int .i64 rn,.slice ua u uc,.slice la n lc,.int .i64 cap,.int .i64 shift,.int .i64 edge,.int .u32 recent,.bool stamps,.bool sacks,.int .i64 fin,.bool dn,.slice fa m fc,.int .u32 irs,.int .u32 own,.bool stamp] w2.heap.size own ak wn false 0 ba bn bc bl):=tel_C HX.out.1 HX.out.2.1 HX.out.2.2.1 HX.out.2.2.2.1 HX.out.2.2.2.2 HRW.out.1 HRW.out.2 bXa (by have:=hb2.size;omega) hzX rfl hX9
       clear hX9 hHeld2 y0 y1 y2 y3 y4 y6 y8 y9 y10 y12 y11 y13 hS HSK
       go_wp2_with fail
       go_meet
       exact ⟨_,rfl,HFX⟩
     · have _:=trivial
       rw [if_pos (by rfl)]
       go_simp
       obtain ⟨Xa,hXa⟩:∃ Xa,(W0.alloc (.cells zS.toArray 34)).drew=Xa:=⟨_,rfl⟩
       have bXa:Below W0.heap.size W0 Xa:=by rw [← hXa];exact by repeat (first|with_reducible exact Below.refl _ _|with_reducible assumption|with_reducible refine Below.drew ?_|with_reducible refine zad ?_ _|with_reducible refine zaa ?_ _)
       have hzX:Box Xa W0.heap.size 34 zS:=by rw [← hXa];exact Box.of_heap (Box.new W0 34 zS) rfl
       try rw [hXa]
       refine hK.out _ _ ⟨fun _=>HSK.out _ bXa,?_⟩
       clear hK K hXa
       try simp only [Act.put,qA,qZ,qS]
       refine zah (i:=7) (o:=⟨some 24,.call { callee:=.value (.func 48),args:=#[.tmp 23],argTypes:=#[27]},3,_,#[⟨6,.data⟩,⟨5,.chain⟩],none⟩) (by kernel_rfl) rfl (fun K hK=>?_)
       rw [if_pos (by rfl)]
       go_simp
       refine (cW _).mono ?_
       rintro e w2 ⟨rfl,hB2⟩
       have hb2:Below W0.heap.size W0 w2:=Below.on (bXa) hB2
       have hHeld2:=HSK.out _ hb2
       refine hK.out _ _ ⟨fun _=>hHeld2,?_⟩
       clear hK K
       try simp only [Act.put,qA,qZ,qS]
       refine zk 11 (y11 _ rfl rfl) ?_
       try simp only [Act.put,qA,qZ,qS]
       refine zk 13 (y13 _ rfl rfl rfl rfl rfl rfl) ?_
       try simp only [Act.put,qA,qZ,qS]
       have hz2:=hzX.later hB2
       refine zah (i:=15) (o:=⟨none,.store 34 (.tmp 7) (.tmp 30),0,_,#[⟨14,.data⟩,⟨13,.data⟩,⟨7,.chain⟩,⟨0,.phase⟩,⟨1,.phase⟩,⟨2,.phase⟩,⟨3,.phase⟩,⟨4,.phase⟩,⟨5,.phase⟩,⟨6,.phase⟩,⟨7,.phase⟩,⟨8,.phase⟩,⟨9,.phase⟩,⟨10,.phase⟩,⟨11,.phase⟩,⟨12,.phase⟩,⟨13,.phase⟩,⟨14,.phase⟩],none⟩) (by kernel_rfl) rfl (fun K hK=>?_)
       obtain ⟨X9,hX9⟩:∃ X9,setAll w2 W0.heap.size 0 [.int .i64 0,.int .i64 0,.int .u32 own,.int .u32 ak,.int .i64 16,.int .i64 wn,.int .i64 0,.int .i64 (-1),.int .i64 (-1),.bool false,.bool false,.int .u32 0,.int .u32 0,.slice ba bn bc,.slice none 0 0]=X9:=⟨_,rfl⟩
       refine zd6 rfl (.tmp 7) (.tmp 30) rfl own ak wn false 0 ba bn bc W0.heap.size rfl rfl rfl hz2 hX9 (fun v=>?_)
       refine hK.out _ _ ⟨fun h=>absurd rfl h,?_⟩
       clear hK K
       refine zax (by kernel_rfl) ?_ _
       try simp only [Act.put,qA,qZ,qS]
       have HFX:Hid (TelTo w X9 Bk (lies ba) [.int .i64 rn,.slice ua u uc,.slice la n lc,.int .i64 cap,.int .i64 shift,.int .i64 edge,.int .u32 recent,.bool stamps,.bool sacks,.int .i64 fin,.bool dn,.slice fa m fc,.int .u32 irs,.int .u32 own,.bool stamp] W0.heap.size own ak wn false 0 ba bn bc bl):=tel_C HX.out.1 HX.out.2.1 HX.out.2.2.1 HX.out.2.2.2.1 HX.out.2.2.2.2 HRW.out.1 HRW.out.2 hb2 (by omega) hz2 rfl hX9
       clear hX9 hHeld2 y0 y1 y2 y3 y4 y6 y8 y9 y10 y12 y11 y13 hS HSK
       go_wp2_with fail
       go_meet
       exact ⟨_,rfl,HFX⟩
   · have _:=trivial
     rw [if_pos (by rfl)]
     go_simp
     obtain ⟨Xa,hXa⟩:∃ Xa,(W0.alloc (.cells zS.toArray 34)).drew=Xa:=⟨_,rfl⟩
     have bXa:Below W0.heap.size W0 Xa:=by rw [← hXa];exact by repeat (first|with_reducible exact Below.refl _ _|with_reducible assumption|with_reducible refine Below.drew ?_|with_reducible refine zad ?_ _|with_reducible refine zaa ?_ _)
     have hzX:Box Xa W0.heap.size 34 zS:=by rw [← hXa];exact Box.of_heap (Box.new W0 34 zS) rfl
     try rw [hXa]
     refine hK.out _ _ ⟨fun _=>HSK.out _ bXa,?_⟩
     clear hK K hXa
     try simp only [Act.put,qA,qZ,qS]
     refine zah (i:=5) (o:=⟨some 22,.call { callee:=.value (.func 38),args:=#[.tmp 20,.tmp 21],argTypes:=#[24,3]},24,_,#[⟨3,.data⟩,⟨4,.data⟩],none⟩) (by kernel_rfl) rfl (fun K hK=>?_)
     rw [if_pos (by rfl)]
     go_simp
     refine (cA _).mono ?_
     rintro e w1 ⟨rfl,hw1⟩
     obtain rfl:=hw1.symm
     refine hK.out _ _ ⟨fun _=>HSK.out _ (bXa),?_⟩
     clear hK K
     try simp only [Act.put,qA,qZ,qS]
     refine zah (i:=7) (o:=⟨some 24,.call { callee:=.value (.func 48),args:=#[.tmp 23],argTypes:=#[27]},3,_,#[⟨6,.data⟩,⟨5,.chain⟩],none⟩) (by kernel_rfl) rfl (fun K hK=>?_)
     rw [if_pos (by rfl)]
     go_simp
     refine (cW _).mono ?_
     rintro e w2 ⟨rfl,hB2⟩
     have hb2:Below W0.heap.size W0 w2:=Below.on (bXa) hB2
     have hHeld2:=HSK.out _ hb2
     refine hK.out _ _ ⟨fun _=>hHeld2,?_⟩
     clear hK K
     try simp only [Act.put,qA,qZ,qS]
     refine zk 11 (y11 _ rfl rfl) ?_
     try simp only [Act.put,qA,qZ,qS]
     refine zk 13 (y13 _ rfl rfl rfl rfl rfl rfl) ?_
     try simp only [Act.put,qA,qZ,qS]
     have hz2:=hzX.later hB2
     refine zah (i:=15) (o:=⟨none,.store 34 (.tmp 7) (.tmp 30),0,_,#[⟨14,.data⟩,⟨13,.data⟩,⟨7,.chain⟩,⟨0,.phase⟩,⟨1,.phase⟩,⟨2,.phase⟩,⟨3,.phase⟩,⟨4,.phase⟩,⟨5,.phase⟩,⟨6,.phase⟩,⟨7,.phase⟩,⟨8,.phase⟩,⟨9,.phase⟩,⟨10,.phase⟩,⟨11,.phase⟩,⟨12,.phase⟩,⟨13,.phase⟩,⟨14,.phase⟩],none⟩) (by kernel_rfl) rfl (fun K hK=>?_)
     obtain ⟨X9,hX9⟩:∃ X9,setAll w2 W0.heap.size 0 [.int .i64 0,.int .i64 0,.int .u32 own,.int .u32 ak,.int .i64 16,.int .i64 wn,.int .i64 0,.int .i64 (-1),.int .i64 (-1),.bool false,.bool false,.int .u32 0,.int .u32 0,.slice ba bn bc,.slice none 0 0]=X9:=⟨_,rfl⟩
     refine zd6 rfl (.tmp 7) (.tmp 30) rfl own ak wn false 0 ba bn bc W0.heap.size rfl rfl rfl hz2 hX9 (fun v=>?_)
     refine hK.out _ _ ⟨fun h=>absurd rfl h,?_⟩
     clear hK K
     refine zax (by kernel_rfl) ?_ _
     try simp only [Act.put,qA,qZ,qS]
     have HFX:Hid (TelTo w X9 Bk (lies ba) [.int .i64 rn,.slice ua u uc,.slice la n lc,.int .i64 cap,.int .i64 shift,.int .i64 edge,.int .u32 recent,.bool stamps,.bool sacks,.int .i64 fin,.bool dn,.slice fa m fc,.int .u32 irs,.int .u32 own,.bool stamp] W0.heap.size own ak wn false 0 ba bn bc bl):=tel_C HX.out.1 HX.out.2.1 HX.out.2.2.1 HX.out.2.2.2.1 HX.out.2.2.2.2 HRW.out.1 HRW.out.2 hb2 (by omega) hz2 rfl hX9
     clear hX9 hHeld2 y0 y1 y2 y3 y4 y6 y8 y9 y10 y12 y11 y13 hS HSK
     go_wp2_with fail
     go_meet
     exact ⟨_,rfl,HFX⟩
  case rest =>
   obtain ⟨p,rfl,HT⟩:=hcut
   clear HK HX cA hshr hcv
   obtain ⟨c0,c1,c2,c3,c4,c5,c6,c7,c8,c9,c10,c11,c12,c13,c14⟩:=Box.c15 HT.out.box
   go_upto_if 32 with fail
   clear c0 c1 c2 c3 c4 c5 c6 c7 c8 c9 c10 c11 c12 c13 c14
   obtain ⟨room,hroom⟩:∃ room:Nat,(if stamps=true then 3 else 4)=room:=⟨_,rfl⟩
   have HR:Hid ((if stamps=true then 3 else 4)=room):=hroom
   have hroom2:room=3∨room=4:=by rw [← hroom];split<;>simp
   clear hroom
   go_cut [8] (fun v8 wx=>v8=.int .i64 (room:Int)∧Hid (TelTo w wx Bk (lies ba) [.int .i64 rn,.slice ua u uc,.slice la n lc,.int .i64 cap,.int .i64 shift,.int .i64 edge,.int .u32 recent,.bool stamps,.bool sacks,.int .i64 fin,.bool dn,.slice fa m fc,.int .u32 irs,.int .u32 own,.bool stamp] p own ak wn stamps ec ba bn bc bl))
   case first =>
    obtain ⟨c0,c1,c2,c3,c4,c5,c6,c7,c8,c9,c10,c11,c12,c13,c14⟩:=Box.c15 HT.out.box
    obtain ⟨d0,d1,d2,d3,d4,d5,d6,d7,d8,d9,d10,d11,d12,d13,d14⟩:=Box.c15 HT.out.seg
    have f10:=HT.out.seg.frozen 10
    have f12:=HT.out.seg.frozen 12
    have hec:=HE.out.2.2.1
    have hrm:=HR.out
    cases stamps with
    | true =>
     have e1:recent=ec:=by simpa using hec
     have HE2:Hid (3=room∧recent=ec):=⟨by simpa using hrm,e1⟩
     clear e1 hec hrm hroom2
     go_wp2_with fail
     go_meet
     refine ⟨by rw [← HE2.out.1];rfl,?_⟩
     have:=HT.out.set2 true recent
     rw [HE2.out.2] at this ⊢
     exact this
    | false =>
     have HE2:Hid (4=room∧0=ec):=⟨by simpa using hrm,by simpa using hec⟩
     clear hec hrm hroom2
     go_wp2_with fail
     go_meet
     refine ⟨by rw [← HE2.out.1];rfl,?_⟩
     rw [← HE2.out.2]
     exact HT.out
   case rest =>
    clear HT
    obtain ⟨rfl,HT⟩:=hcut
    go_upto_block 0 with fail
    go_cut [] (fun wx=>∃ (ka:Option Addr) (kc:Nat),Hid (TelTo w wx Bk (lies ba) [.int .i64 rn,.slice ua u uc,.slice la n lc,.int .i64 cap,.int .i64 shift,.int .i64 edge,.int .u32 recent,.bool stamps,.bool sacks,.int .i64 fin,.bool dn,.slice fa m fc,.int .u32 irs,.int .u32 own,.bool stamp] p own ak wn stamps ec ka L kc sk))
    case first =>
     go_wp2_with fail
     go_loopw [9] (fun vi wx=>∃ (i q:Nat) (ka:Option Addr) (kc:Nat),vi=.int .i64 i∧i≤m∧q≤room∧Hid (bn+i=q∧(i=0∨sacks=true))∧Hid (TelTo w wx Bk (lies ba) [.int .i64 rn,.slice ua u uc,.slice la n lc,.int .i64 cap,.int .i64 shift,.int .i64 edge,.int .u32 recent,.bool stamps,.bool sacks,.int .i64 fin,.bool dn,.slice fa m fc,.int .u32 irs,.int .u32 own,.bool stamp] p own ak wn stamps ec ka q kc (bl++(fl.take i).map (blkI irs)))) (fun vi _=>m-(intOf vi).toNat)
     case atStart=>exact ⟨0,bn,ba,bc,rfl,Nat.zero_le _,by omega,⟨rfl,.inl rfl⟩,by unfold Hid;rw [List.take_zero,List.map_nil,List.append_nil];exact HT.out⟩
     case round =>
      obtain ⟨i,q,ka,kc,rfl,him,hqr,HQ,HI⟩:=hrel
      have c11:=HI.out.box.cell 11 rfl
      have c8:=HI.out.box.cell 8 rfl
      have c13:=HI.out.seg.cell 13 rfl
      by_cases hc:i<m∧sacks=true∧bn+i<room
      · obtain ⟨h1,h2,h3⟩:=hc
        subst h2
        have hi':(i:Int)<(m:Int):=by omega
        have hq1:q<room:=by have:=HQ.out.1;omega
        have hq2:(q:Int)<(room:Int):=by omega
        have hil:i<fl.length:=by rw [HFL.out.2];exact h1
        obtain ⟨b,o,e0,e1,e2⟩:=(HFL.out.1 w (Chg.of_below (Below.refl _ _))).tims.2 i hil
        subst e0
        obtain ⟨x,hx⟩:∃ x,fl[i]?.getD (0,0)=x:=⟨_,rfl⟩
        have hxm:x∈fl:=by rw [← hx,List.getElem?_eq_getElem hil];exact List.getElem_mem hil
        have HXX:Hid (x∈fl∧fl.take (i+1)=fl.take i++[x]):=⟨hxm,zc2 hil hx⟩
        have HSP:Hid (∀ U,Chg (lies ba) w U→U.cell? ⟨b,o+i*2,none⟩=some (.int .i64 x.1)∧U.cell? ⟨b,o+i*2+1,none⟩=some (.int .i64 x.2)):=fun U hU=>by
         obtain ⟨_,_,e0,e1,e2⟩:=(HFL.out.1 U hU).tims.2 i hil
         cases e0
         rw [hx] at e1 e2
         exact ⟨e1,e2⟩
        clear e1 e2 hx hxm hil h1 h3
        go_upto_region 13 with fail
        clear c11 c8 c13
        obtain ⟨S,hS⟩:∃ S:World→Prop,S=fun W=>W.cell? ⟨p,13,none⟩=some (.slice ka q kc)∧W.cell? ⟨w.heap.size,12,none⟩=some (.int .u32 irs)∧W.cell? ⟨w.heap.size,11,none⟩=some (.slice (some ⟨b,o,none⟩) m fc)∧W.cell? ⟨b,o+i*2,none⟩=some (.int .i64 x.1)∧W.cell? ⟨b,o+i*2+1,none⟩=some (.int .i64 x.2):=⟨_,rfl⟩
        have HSK:Hid (∀ W,Below wr.heap.size wr W→S W):=fun W hW=>by
         have hT:=HI.out.later hW
         rw [hS]
         exact ⟨hT.seg.cell 13 rfl,hT.box.cell 12 rfl,hT.box.cell 11 rfl,HSP.out W hT.chg⟩
        obtain ⟨f1,hf1⟩:∃ f1,Pl.adI irs x.1=f1:=⟨_,rfl⟩
        obtain ⟨t1,ht1⟩:∃ t1,Pl.adI irs x.2=t1:=⟨_,rfl⟩
        have cF:=fun W=>(HAD.out x HXX.out.1 W).1
        have cT:=fun W=>(HAD.out x HXX.out.1 W).2
        rw [hf1] at cF
        rw [ht1] at cT
        have HFT:Hid (Pl.adI irs x.1=f1∧Pl.adI irs x.2=t1):=⟨hf1,ht1⟩
        clear hf1 ht1
        as_aux_lemma =>
         obtain ⟨y0,y1,y2,y3,y4,y5,y6,y7,y8,y9,y11,y12,y13,y14,y15,y16,y17,y18⟩:(∀ {ps} (ev:EV),ev (.tmp 7)=.pointer (some ⟨p,0,none⟩)→Yl Try.prog S ev ⟨some 55,.fieldAddr 34 (.tmp 7) 13,0,ps,#[],none⟩ ((.pointer (some ⟨p,13,none⟩))))∧(∀ {ps} (ev:EV),ev (.tmp 55)=.pointer (some ⟨p,13,none⟩)→Yl Try.prog S ev ⟨some 56,.load 32 (.tmp 55),32,ps,#[⟨0,.data⟩],none⟩ ((.slice ka q kc)))∧(∀ {ps} (ev:EV),ev (.tmp 2)=.pointer (some ⟨w.heap.size,0,none⟩)→Yl Try.prog S ev ⟨some 57,.fieldAddr 27 (.tmp 2) 12,0,ps,#[],none⟩ ((.pointer (some ⟨w.heap.size,12,none⟩))))∧(∀ {ps} (ev:EV),ev (.tmp 57)=.pointer (some ⟨w.heap.size,12,none⟩)→Yl Try.prog S ev ⟨some 58,.load 24 (.tmp 57),24,ps,#[⟨2,.data⟩],none⟩ ((.int .u32 irs)))∧(∀ {ps} (ev:EV),ev (.tmp 2)=.pointer (some ⟨w.heap.size,0,none⟩)→Yl Try.prog S ev ⟨some 59,.fieldAddr 27 (.tmp 2) 11,0,ps,#[],none⟩ ((.pointer (some ⟨w.heap.size,11,none⟩))))∧(∀ {ps} (ev:EV),ev (.tmp 59)=.pointer (some ⟨w.heap.size,11,none⟩)→Yl Try.prog S ev ⟨some 60,.load 25 (.tmp 59),25,ps,#[⟨4,.data⟩],none⟩ ((.slice (some ⟨b,o,none⟩) m fc)))∧(∀ {ps} (ev:EV),ev (.tmp 9)=.int .i64 (i:Int)→Yl Try.prog S ev ⟨some 61,.move (.tmp 9),3,ps,#[],none⟩ ((.int .i64 (i:Int))))∧(∀ {ps} (ev:EV),ev (.tmp 60)=.slice (some ⟨b,o,none⟩) m fc→ev (.tmp 61)=.int .i64 (i:Int)→Yl Try.prog S ev ⟨some 62,.indexAddr 25 (.tmp 60) (.tmp 61),0,ps,#[⟨5,.data⟩,⟨6,.data⟩],none⟩ ((.pointer (some ⟨b,o+i*2,none⟩))))∧(∀ {ps} (ev:EV),ev (.tmp 62)=.pointer (some ⟨b,o+i*2,none⟩)→Yl Try.prog S ev ⟨some 63,.fieldAddr 78 (.tmp 62) 0,0,ps,#[⟨7,.data⟩],none⟩ ((.pointer (some ⟨b,o+i*2,none⟩))))∧(∀ {ps} (ev:EV),ev (.tmp 63)=.pointer (some ⟨b,o+i*2,none⟩)→Yl Try.prog S ev ⟨some 64,.load 3 (.tmp 63),3,ps,#[⟨8,.data⟩],none⟩ ((.int .i64 x.1)))∧(∀ {ps} (ev:EV),ev (.tmp 2)=.pointer (some ⟨w.heap.size,0,none⟩)→Yl Try.prog S ev ⟨some 66,.fieldAddr 27 (.tmp 2) 12,0,ps,#[],none⟩ ((.pointer (some ⟨w.heap.size,12,none⟩))))∧(∀ {ps} (ev:EV),ev (.tmp 66)=.pointer (some ⟨w.heap.size,12,none⟩)→Yl Try.prog S ev ⟨some 67,.load 24 (.tmp 66),24,ps,#[⟨11,.data⟩],none⟩ ((.int .u32 irs)))∧(∀ {ps} (ev:EV),ev (.tmp 2)=.pointer (some ⟨w.heap.size,0,none⟩)→Yl Try.prog S ev ⟨some 68,.fieldAddr 27 (.tmp 2) 11,0,ps,#[],none⟩ ((.pointer (some ⟨w.heap.size,11,none⟩))))∧(∀ {ps} (ev:EV),ev (.tmp 68)=.pointer (some ⟨w.heap.size,11,none⟩)→Yl Try.prog S ev ⟨some 69,.load 25 (.tmp 68),25,ps,#[⟨13,.data⟩],none⟩ ((.slice (some ⟨b,o,none⟩) m fc)))∧(∀ {ps} (ev:EV),ev (.tmp 9)=.int .i64 (i:Int)→Yl Try.prog S ev ⟨some 70,.move (.tmp 9),3,ps,#[],none⟩ ((.int .i64 (i:Int))))∧(∀ {ps} (ev:EV),ev (.tmp 69)=.slice (some ⟨b,o,none⟩) m fc→ev (.tmp 70)=.int .i64 (i:Int)→Yl Try.prog S ev ⟨some 71,.indexAddr 25 (.tmp 69) (.tmp 70),0,ps,#[⟨14,.data⟩,⟨15,.data⟩],none⟩ ((.pointer (some ⟨b,o+i*2,none⟩))))∧(∀ {ps} (ev:EV),ev (.tmp 71)=.pointer (some ⟨b,o+i*2,none⟩)→Yl Try.prog S ev ⟨some 72,.fieldAddr 78 (.tmp 71) 1,0,ps,#[⟨16,.data⟩],none⟩ ((.pointer (some ⟨b,o+i*2+1,none⟩))))∧(∀ {ps} (ev:EV),ev (.tmp 72)=.pointer (some ⟨b,o+i*2+1,none⟩)→Yl Try.prog S ev ⟨some 73,.load 3 (.tmp 72),3,ps,#[⟨17,.data⟩],none⟩ ((.int .i64 x.2))):=by
          refine ⟨?_,?_,?_,?_,?_,?_,?_,?_,?_,?_,?_,?_,?_,?_,?_,?_,?_,?_⟩<;>(intros;intro W hSw;rw [hS] at hSw;(try dsimp only at hSw);go_simp<;>with_reducible rfl)
         refine zaq S 24 (by kernel_rfl) (HSK.out _ (Below.drew (Below.refl _ _))) (fun hHeld=>?_)
         refine zk 0 (y0 _ rfl) ?_
         try simp only [Act.put,qA,qZ,qS]
         refine zk 1 (y1 _ rfl) ?_
         try simp only [Act.put,qA,qZ,qS]
         refine zk 2 (y2 _ rfl) ?_
         try simp only [Act.put,qA,qZ,qS]
         refine zk 3 (y3 _ rfl) ?_
         try simp only [Act.put,qA,qZ,qS]
         refine zk 4 (y4 _ rfl) ?_
         try simp only [Act.put,qA,qZ,qS]
         refine zk 5 (y5 _ rfl) ?_
         try simp only [Act.put,qA,qZ,qS]
         refine zk 6 (y6 _ rfl) ?_
         try simp only [Act.put,qA,qZ,qS]
         refine zk 7 (y7 _ rfl rfl) ?_
         try simp only [Act.put,qA,qZ,qS]
         refine zk 8 (y8 _ rfl) ?_
         try simp only [Act.put,qA,qZ,qS]
         refine zk 9 (y9 _ rfl) ?_
         try simp only [Act.put,qA,qZ,qS]
         refine zk 11 (y11 _ rfl) ?_
         try simp only [Act.put,qA,qZ,qS]
         refine zk 12 (y12 _ rfl) ?_
         try simp only [Act.put,qA,qZ,qS]
         refine zk 13 (y13 _ rfl) ?_
         try simp only [Act.put,qA,qZ,qS]
         refine zk 14 (y14 _ rfl) ?_
         try simp only [Act.put,qA,qZ,qS]
         refine zk 15 (y15 _ rfl) ?_
         try simp only [Act.put,qA,qZ,qS]
         refine zk 16 (y16 _ rfl rfl) ?_
         try simp only [Act.put,qA,qZ,qS]
         refine zk 17 (y17 _ rfl) ?_
         try simp only [Act.put,qA,qZ,qS]
         refine zk 18 (y18 _ rfl) ?_
         try simp only [Act.put,qA,qZ,qS]
         refine zah (i:=10) (o:=⟨some 65,.call { callee:=.value (.func 38),args:=#[.tmp 58,.tmp 64],argTypes:=#[24,3]},24,_,#[⟨3,.data⟩,⟨9,.data⟩],none⟩) (by kernel_rfl) rfl (fun K hK=>?_)
         rw [if_pos (by rfl)]
         go_simp
         refine (cF _).mono ?_
         rintro e w1 ⟨rfl,hw1⟩
         obtain rfl:=hw1.symm
         refine hK.out _ _ ⟨fun _=>hHeld,?_⟩
         clear hK K
         try simp only [Act.put,qA,qZ,qS]
         refine zah (i:=19) (o:=⟨some 74,.call { callee:=.value (.func 38),args:=#[.tmp 67,.tmp 73],argTypes:=#[24,3]},24,_,#[⟨12,.data⟩,⟨18,.data⟩,⟨10,.chain⟩],none⟩) (by kernel_rfl) rfl (fun K hK=>?_)
         rw [if_pos (by rfl)]
         go_simp
         refine (cT _).mono ?_
         rintro e w1 ⟨rfl,hw1⟩
         obtain rfl:=hw1.symm
         refine hK.out _ _ ⟨fun _=>hHeld,?_⟩
         clear hK K
         try simp only [Act.put,qA,qZ,qS]
         refine zah (i:=20) (o:=⟨some 75,.build 62 #[(0,.tmp 65),(1,.tmp 74)],62,_,#[⟨10,.data⟩,⟨19,.data⟩],none⟩) (by kernel_rfl) rfl (fun K hK=>?_)
         rw [if_pos (by rfl)]
         go_simp
         refine hK.out _ _ ⟨fun _=>hHeld,?_⟩
         clear hK K
         try simp only [Act.put,qA,qZ,qS]
         refine zah (i:=21) (o:=⟨some 76,.buildSlice 32 1 #[(0,.tmp 75)],32,_,#[⟨20,.data⟩],none⟩) (by kernel_rfl) rfl (fun K hK=>?_)
         rw [if_pos (by rfl)]
         go_simp
         obtain ⟨Y,hY⟩:∃ Y,(wr.alloc (.cells #[.int .u32 f1,.int .u32 t1] 62)).drew=Y:=⟨_,rfl⟩
         have bY:Below wr.heap.size wr Y:=by rw [← hY];exact Below.drew (zaa (Below.refl _ _) _)
         have eY:∀ j u,[Value.int .u32 f1,Value.int .u32 t1][j]? = some u→Y.cell? ((⟨wr.heap.size,0,none⟩:Addr).add j)=some u:=by rw [← hY];exact zdo wr f1 t1
         try rw [hY]
         refine hK.out _ _ ⟨fun _=>HSK.out _ bY,?_⟩
         clear hK K hY hHeld
         try simp only [Act.put,qA,qZ,qS]
         refine zah (i:=22) (o:=⟨some 77,.call { callee:=.builtin .append,args:=#[.tmp 56,.tmp 76],argTypes:=#[32,32]},32,_,#[⟨1,.data⟩,⟨21,.data⟩,⟨19,.chain⟩],none⟩) (by kernel_rfl) rfl (fun K hK=>?_)
         refine zf8 rfl (.tmp 56) (.tmp 76) rfl Bk ka q kc (bl++(fl.take i).map (blkI irs)) ⟨wr.heap.size,0,none⟩ (f1,t1) rfl rfl (HI.out.row.later bY) (by have h1:=HI.out.hB;have h2:=HI.out.chg.flat.size;have h3:=bY.size;omega) eY (by omega) ?_
         intro va vc w2 hR2 hg2 hl2
         obtain ⟨n1,n2,n3⟩:=tel_grown HI.out bY hg2
         have HN:Hid (TelTo w (w2.setCell ⟨p,13,none⟩ (.slice va (q+1) vc)) Bk (lies ba) [.int .i64 rn,.slice ua u uc,.slice la n lc,.int .i64 cap,.int .i64 shift,.int .i64 edge,.int .u32 recent,.bool stamps,.bool true,.int .i64 fin,.bool dn,.slice (some ⟨b,o,none⟩) m fc,.int .u32 irs,.int .u32 own,.bool stamp] p own ak wn stamps ec va (q+1) vc (bl++(fl.take (i+1)).map (blkI irs))):=by
          refine tel_next HI.out bY hg2 ?_ hl2
          have hbx:blkI irs x=(f1,t1):=by unfold blkI;rw [HFT.out.1,HFT.out.2]
          rw [HXX.out.2,List.map_append,List.map_cons,List.map_nil,hbx,← List.append_assoc]
          exact hR2
         have hS2:S w2:=by rw [hS];exact ⟨n2.cell 13 rfl,n1.cell 12 rfl,n1.cell 11 rfl,HSP.out w2 n3⟩
         have z13:=n2.cell 13 rfl
         have zf13:=n2.frozen 13
         refine hK.out _ _ ⟨fun _=>hS2,?_⟩
         clear hK K
         try simp only [Act.put,qA,qZ,qS]
         refine zah (i:=23) (o:=⟨some 78,.fieldAddr 34 (.tmp 7) 13,0,_,#[⟨0,.phase⟩,⟨1,.phase⟩,⟨2,.phase⟩,⟨3,.phase⟩,⟨4,.phase⟩,⟨5,.phase⟩,⟨6,.phase⟩,⟨7,.phase⟩,⟨8,.phase⟩,⟨9,.phase⟩,⟨10,.phase⟩,⟨11,.phase⟩,⟨12,.phase⟩,⟨13,.phase⟩,⟨14,.phase⟩,⟨15,.phase⟩,⟨16,.phase⟩,⟨17,.phase⟩,⟨18,.phase⟩,⟨19,.phase⟩,⟨20,.phase⟩,⟨21,.phase⟩,⟨22,.phase⟩],none⟩) (by kernel_rfl) rfl (fun K hK=>?_)
         rw [if_pos (by rfl)]
         go_simp
         refine hK.out _ _ ⟨fun _=>hS2,?_⟩
         clear hK K
         try simp only [Act.put,qA,qZ,qS]
         refine zah (i:=24) (o:=⟨none,.store 32 (.tmp 78) (.tmp 77),0,_,#[⟨23,.data⟩,⟨22,.data⟩,⟨22,.chain⟩,⟨0,.phase⟩,⟨1,.phase⟩,⟨2,.phase⟩,⟨3,.phase⟩,⟨4,.phase⟩,⟨5,.phase⟩,⟨6,.phase⟩,⟨7,.phase⟩,⟨8,.phase⟩,⟨9,.phase⟩,⟨10,.phase⟩,⟨11,.phase⟩,⟨12,.phase⟩,⟨13,.phase⟩,⟨14,.phase⟩,⟨15,.phase⟩,⟨16,.phase⟩,⟨17,.phase⟩,⟨18,.phase⟩,⟨19,.phase⟩,⟨20,.phase⟩,⟨21,.phase⟩,⟨22,.phase⟩],none⟩) (by kernel_rfl) rfl (fun K hK=>?_)
         rw [if_pos (by rfl)]
         go_simp
         refine hK.out _ _ ⟨fun h=>absurd rfl h,?_⟩
         clear hK K
         refine zax (by kernel_rfl) ?_ _
         try simp only [Act.put,qA,qZ,qS]
         clear y0 y1 y2 y3 y4 y5 y6 y7 y8 y9 y11 y12 y13 y14 y15 y16 y17 y18 hS HSK hS2 z13 zf13 n1 n2 n3 hR2 hg2 hl2 bY eY cF cT HI
         go_wp2_with fail
         go_roundw
         case rel=>exact ⟨i+1,q+1,va,vc,by go_num,by omega,by omega,⟨by have:=HQ.out.1;omega,.inr (by simp)⟩,HN⟩
         case measure=>simp [intOf];omega
      · have HF:Hid (bl++(fl.take i).map (blkI irs)=sk∧q=L):=by
         have hq:=HQ.out.1
         have e1:=refSk_end (irs:=irs) HR.out HRW.out.1.len HFL.out.2 him (by omega) HQ.out.2 hc
         rw [HE.out.1] at e1
         refine ⟨e1.symm,?_⟩
         rw [← HE.out.2.1,e1]
         exact (HI.out.row.len).symm
        have hcs:(decide ((i:Int)<(m:Int))=false∧¬(i:Int)<(m:Int))∨((i:Int)<(m:Int)∧sacks=false)∨((i:Int)<(m:Int)∧sacks=true∧¬(q:Int)<(room:Int)):=by
         by_cases h1:i<m
         · cases sacks with
           | false=>exact .inr (.inl ⟨by omega,rfl⟩)
           | true=>exact .inr (.inr ⟨by omega,rfl,fun h=>hc ⟨h1,rfl,by have:=HQ.out.1;omega⟩⟩)
         · exact .inl ⟨by simp;omega,by omega⟩
        clear hc
        rcases hcs with ⟨h0,h1⟩|⟨h1,rfl⟩|⟨h1,rfl,h3⟩
        all_goals (
         go_wp2_with fail
         go_meet
         refine ⟨ka,kc,?_⟩
         have h:=HI.out
         rw [HF.out.1] at h
         have e:=HF.out.2
         subst e
         exact h)
    case rest =>
     clear HT
     obtain ⟨ka,kc,HT⟩:=hcut
     obtain ⟨c0,c1,c2,c3,c4,c5,c6,c7,c8,c9,c10,c11,c12,c13,c14⟩:=Box.c15 HT.out.box
     go_wp2_with fail
     refine (HC.out wc HT.out.chg).mono ?_
     rintro e w5 ⟨ua1,uc1,la1,lc1,es1,fa1,fc1,rfl,hO,hB5⟩
     have HO:Hid (RvOwn w5 w.heap.size r ⟨ua1,uc1,la1,lc1,es1,fa1,fc1⟩∧Below wc.heap.size wc w5):=⟨hO.mono HT.out.chg.flat.size,hB5⟩
     clear c0 c1 c2 c3 c4 c5 c6 c7 c8 c9 c10 c11 c12 c13 c14 hO hB5
     go_upto_region 15 with fail
     obtain ⟨W6,hW6⟩:∃ W6,w5.alloc (.cells #[.int .i64 rn,.slice ua1 u uc1,.slice la1 n lc1,.int .i64 cap,.int .i64 shift,.int .i64 edge,.int .u32 recent,.bool stamps,.bool sacks,.int .i64 fin,.bool dn,.slice fa1 m fc1,.int .u32 irs,.int .u32 own,.bool stamp] 27)=W6:=⟨_,rfl⟩
     have b56:Below w5.heap.size w5 W6:=by rw [← hW6];exact zaa (Below.refl _ _) _
     have hx6:Box W6 w5.heap.size 27 [.int .i64 rn,.slice ua1 u uc1,.slice la1 n lc1,.int .i64 cap,.int .i64 shift,.int .i64 edge,.int .u32 recent,.bool stamps,.bool sacks,.int .i64 fin,.bool dn,.slice fa1 m fc1,.int .u32 irs,.int .u32 own,.bool stamp]:=by rw [← hW6];exact Box.new _ _ _
     have hge5:w.heap.size+3≤w5.heap.size:=by have h1:=HT.out.ge;have h2:=HT.out.seg.lt;have h3:=HO.out.2.size;omega
     have hne5:p<w5.heap.size:=by have h2:=HT.out.seg.lt;have h3:=HO.out.2.size;omega
     have H6:Hid (TelTo w W6 Bk (lies ba) [.int .i64 rn,.slice ua u uc,.slice la n lc,.int .i64 cap,.int .i64 shift,.int .i64 edge,.int .u32 recent,.bool stamps,.bool sacks,.int .i64 fin,.bool dn,.slice fa m fc,.int .u32 irs,.int .u32 own,.bool stamp] p own ak wn stamps ec ka L kc sk∧Box W6 w5.heap.size 27 [.int .i64 rn,.slice ua1 u uc1,.slice la1 n lc1,.int .i64 cap,.int .i64 shift,.int .i64 edge,.int .u32 recent,.bool stamps,.bool sacks,.int .i64 fin,.bool dn,.slice fa1 m fc1,.int .u32 irs,.int .u32 own,.bool stamp]∧RvOwn W6 w.heap.size r ⟨ua1,uc1,la1,lc1,es1,fa1,fc1⟩):=⟨HT.out.later (Below.on HO.out.2 b56),hx6,HO.out.1.later b56⟩
     rw [hW6]
     clear hW6 b56 hx6 HT HO
     as_aux_lemma =>
      obtain ⟨S,hS⟩:∃ S:World→Prop,S=fun W=>W.cell? ⟨w.heap.size,0,none⟩=some (.int .i64 rn)∧W.cell? ⟨w.heap.size,1,none⟩=some (.slice ua u uc)∧W.cell? ⟨w.heap.size,2,none⟩=some (.slice la n lc)∧W.cell? ⟨w.heap.size,3,none⟩=some (.int .i64 cap)∧W.cell? ⟨w.heap.size,4,none⟩=some (.int .i64 shift)∧W.cell? ⟨w.heap.size,5,none⟩=some (.int .i64 edge)∧W.cell? ⟨w.heap.size,6,none⟩=some (.int .u32 recent)∧W.cell? ⟨w.heap.size,7,none⟩=some (.bool stamps)∧W.cell? ⟨w.heap.size,8,none⟩=some (.bool sacks)∧W.cell? ⟨w.heap.size,9,none⟩=some (.int .i64 fin)∧W.cell? ⟨w.heap.size,10,none⟩=some (.bool dn)∧W.cell? ⟨w.heap.size,11,none⟩=some (.slice fa m fc)∧W.cell? ⟨w.heap.size,12,none⟩=some (.int .u32 irs)∧W.cell? ⟨w.heap.size,13,none⟩=some (.int .u32 own)∧W.cell? ⟨w.heap.size,14,none⟩=some (.bool stamp):=⟨_,rfl⟩
      have HSK:Hid (∀ W,Below W6.heap.size W6 W→S W):=fun W hW=>by
       rw [hS]
       exact Box.c15 (H6.out.1.box.later hW)
      have hmx:(if edge<rn+wd then rn+wd else edge)=eg:=by rw [← HE.out.2.2.2.1];rfl
      have hwr1:IntKind.i64.wrap (rn+wd)=rn+wd:=by rw [IntKind.wrap_i64];omega
      obtain ⟨y0,y1,y2,y3,y4,y6,y7,y8⟩:(∀ {ps} (ev:EV),ev (.tmp 2)=.pointer (some ⟨w.heap.size,0,none⟩)→Yl Try.prog S ev ⟨some 81,.fieldAddr 27 (.tmp 2) 5,0,ps,#[],none⟩ ((.pointer (some ⟨w.heap.size,5,none⟩))))∧(∀ {ps} (ev:EV),ev (.tmp 81)=.pointer (some ⟨w.heap.size,5,none⟩)→Yl Try.prog S ev ⟨some 82,.load 3 (.tmp 81),3,ps,#[⟨0,.data⟩],none⟩ ((.int .i64 edge)))∧(∀ {ps} (ev:EV),ev (.tmp 2)=.pointer (some ⟨w.heap.size,0,none⟩)→Yl Try.prog S ev ⟨some 83,.fieldAddr 27 (.tmp 2) 0,0,ps,#[],none⟩ ((.pointer (some ⟨w.heap.size,0,none⟩))))∧(∀ {ps} (ev:EV),ev (.tmp 83)=.pointer (some ⟨w.heap.size,0,none⟩)→Yl Try.prog S ev ⟨some 84,.load 3 (.tmp 83),3,ps,#[⟨2,.data⟩],none⟩ ((.int .i64 rn)))∧(∀ {ps} (ev:EV),ev (.tmp 2)=.pointer (some ⟨w.heap.size,0,none⟩)→Yl Try.prog S ev ⟨some 85,.load 27 (.tmp 2),27,ps,#[],none⟩ ((.agg #[.int .i64 rn,.slice ua u uc,.slice la n lc,.int .i64 cap,.int .i64 shift,.int .i64 edge,.int .u32 recent,.bool stamps,.bool sacks,.int .i64 fin,.bool dn,.slice fa m fc,.int .u32 irs,.int .u32 own,.bool stamp])))∧(∀ {ps} (ev:EV),ev (.tmp 84)=.int .i64 rn→ev (.tmp 86)=.int .i64 wd→Yl Try.prog S ev ⟨some 87,.binOp .add 3 (.tmp 84) (.tmp 86) 3,3,ps,#[⟨3,.data⟩,⟨5,.data⟩],none⟩ ((.int .i64 (rn+wd))))∧(∀ {ps} (ev:EV),ev (.tmp 82)=.int .i64 edge→ev (.tmp 87)=.int .i64 (rn+wd)→Yl Try.prog S ev ⟨some 88,.call { callee:=.builtin .max,args:=#[.tmp 82,.tmp 87],argTypes:=#[3,3]},3,ps,#[⟨1,.data⟩,⟨6,.data⟩],none⟩ ((.int .i64 eg)))∧(∀ {ps} (ev:EV),ev (.tmp 10)=.pointer (some ⟨w5.heap.size,0,none⟩)→Yl Try.prog S ev ⟨some 89,.fieldAddr 27 (.tmp 10) 5,0,ps,#[⟨0,.phase⟩,⟨1,.phase⟩,⟨2,.phase⟩,⟨3,.phase⟩,⟨4,.phase⟩,⟨5,.phase⟩,⟨6,.phase⟩,⟨7,.phase⟩],none⟩ ((.pointer (some ⟨w5.heap.size,5,none⟩)))):=by
       refine ⟨?_,?_,?_,?_,?_,?_,?_,?_⟩<;>(intros;intro W hSw;rw [hS] at hSw;(try dsimp only at hSw);go_simp<;>with_reducible rfl)
      refine zaq S 9 (by kernel_rfl) (HSK.out _ (by repeat (first|with_reducible exact Below.refl _ _|with_reducible assumption|with_reducible refine Below.drew ?_|with_reducible refine zad ?_ _|with_reducible refine zaa ?_ _))) (fun hHeld=>?_)
      refine zk 0 (y0 _ rfl) ?_
      try simp only [Act.put,qA,qZ,qS]
      refine zk 1 (y1 _ rfl) ?_
      try simp only [Act.put,qA,qZ,qS]
      refine zk 2 (y2 _ rfl) ?_
      try simp only [Act.put,qA,qZ,qS]
      refine zk 3 (y3 _ rfl) ?_
      try simp only [Act.put,qA,qZ,qS]
      refine zk 4 (y4 _ rfl) ?_
      try simp only [Act.put,qA,qZ,qS]
      refine zah (i:=5) (o:=⟨some 86,.call { callee:=.value (.func 48),args:=#[.tmp 85],argTypes:=#[27]},3,_,#[⟨4,.data⟩],none⟩) (by kernel_rfl) rfl (fun K hK=>?_)
      rw [if_pos (by rfl)]
      go_simp
      refine (cW _).mono ?_
      rintro e w7 ⟨rfl,hB7⟩
      have hb7:Below W6.heap.size W6 w7:=Below.on (by repeat (first|with_reducible exact Below.refl _ _|with_reducible assumption|with_reducible refine Below.drew ?_|with_reducible refine zad ?_ _|with_reducible refine zaa ?_ _)) hB7
      have hHeld7:=HSK.out _ hb7
      refine hK.out _ _ ⟨fun _=>hHeld7,?_⟩
      clear hK K hHeld
      try simp only [Act.put,qA,qZ,qS]
      refine zk 6 (y6 _ rfl rfl) ?_
      try simp only [Act.put,qA,qZ,qS]
      refine zk 7 (y7 _ rfl rfl) ?_
      try simp only [Act.put,qA,qZ,qS]
      refine zk 8 (y8 _ rfl) ?_
      try simp only [Act.put,qA,qZ,qS]
      have hx7:=H6.out.2.1.later hb7
      have zc5:=hx7.cell 5 rfl
      have zf5:=hx7.frozen 5
      refine zah (i:=9) (o:=⟨none,.store 3 (.tmp 89) (.tmp 88),0,_,#[⟨8,.data⟩,⟨7,.data⟩,⟨5,.chain⟩,⟨0,.phase⟩,⟨1,.phase⟩,⟨2,.phase⟩,⟨3,.phase⟩,⟨4,.phase⟩,⟨5,.phase⟩,⟨6,.phase⟩,⟨7,.phase⟩],none⟩) (by kernel_rfl) rfl (fun K hK=>?_)
      rw [if_pos (by rfl)]
      go_simp
      refine hK.out _ _ ⟨fun h=>absurd rfl h,?_⟩
      clear hK K
      refine zax (by kernel_rfl) ?_ _
      try simp only [Act.put,qA,qZ,qS]
      obtain ⟨V,hV⟩:∃ V,w7.setCell ⟨w5.heap.size,5,none⟩ (.int .i64 eg)=V:=⟨_,rfl⟩
      have HV:Hid (Box V w5.heap.size 27 [.int .i64 rn,.slice ua1 u uc1,.slice la1 n lc1,.int .i64 cap,.int .i64 shift,.int .i64 eg,.int .u32 recent,.bool stamps,.bool sacks,.int .i64 fin,.bool dn,.slice fa1 m fc1,.int .u32 irs,.int .u32 own,.bool stamp]∧Box V p 34 [.int .i64 0,.int .i64 0,.int .u32 own,.int .u32 ak,.int .i64 16,.int .i64 wn,.int .i64 0,.int .i64 (-1),.int .i64 (-1),.bool false,.bool stamps,.int .u32 0,.int .u32 ec,.slice ka L kc,.slice none 0 0]∧Box V (w.heap.size+1) 27 zR∧Box V (w.heap.size+1+1) 34 zS∧RowB V Bk ka L kc sk∧(∀ k,lies ka k→lies ba k∨w.heap.size+3≤k)∧Chg (lies ba) w V∧RvOwn V w.heap.size r ⟨ua1,uc1,la1,lc1,es1,fa1,fc1⟩):=by
       have hT7:=H6.out.1.later hb7
       rw [← hV]
       exact ⟨hx7.set 5 _,hT7.seg.aside _ _ _ (by omega),hT7.zr.aside _ _ _ (by omega),hT7.zs.aside _ _ _ (by omega),zan hT7.row hx7 (by decide) _ _,hT7.lie,zfc hT7.chg (by omega) _ _,(H6.out.2.2.later hb7).besideR hx7 5 [.int .i64 eg]⟩
      rw [hV]
      clear hV hx7 zc5 zf5 hHeld7 hb7 hB7 hmx hwr1 y0 y1 y2 y3 y4 y6 y7 y8 hS HSK H6
      as_aux_lemma =>
       go_wp2_with fail
       obtain ⟨S,hS⟩:∃ S:World→Prop,S=fun W=>Box W w5.heap.size 27 [.int .i64 rn,.slice ua1 u uc1,.slice la1 n lc1,.int .i64 cap,.int .i64 shift,.int .i64 eg,.int .u32 recent,.bool stamps,.bool sacks,.int .i64 fin,.bool dn,.slice fa1 m fc1,.int .u32 irs,.int .u32 own,.bool stamp]∧Box W p 34 [.int .i64 0,.int .i64 0,.int .u32 own,.int .u32 ak,.int .i64 16,.int .i64 wn,.int .i64 0,.int .i64 (-1),.int .i64 (-1),.bool false,.bool stamps,.int .u32 0,.int .u32 ec,.slice ka L kc,.slice none 0 0]:=⟨_,rfl⟩
       have y0:∀ {ps:String} (ev:Operand→Value),ev (.tmp 10)=.pointer (some ⟨w5.heap.size,0,none⟩)→∀ W,S W→(execOp ev ⟨some 90,.load 27 (.tmp 10),27,ps,#[],none⟩).run Try.prog W=.ok (.value (.agg #[.int .i64 rn,.slice ua1 u uc1,.slice la1 n lc1,.int .i64 cap,.int .i64 shift,.int .i64 eg,.int .u32 recent,.bool stamps,.bool sacks,.int .i64 fin,.bool dn,.slice fa1 m fc1,.int .u32 irs,.int .u32 own,.bool stamp])) W:=by
        intro ps ev h0 W hSw
        rw [hS] at hSw
        obtain ⟨c0,c1,c2,c3,c4,c5,c6,c7,c8,c9,c10,c11,c12,c13,c14⟩:=Box.c15 hSw.1
        first|(go_simp;done)|(go_simp;with_reducible rfl)
       have y1:∀ {ps:String} (ev:Operand→Value),ev (.tmp 7)=.pointer (some ⟨p,0,none⟩)→∀ W,S W→(execOp ev ⟨some 91,.load 34 (.tmp 7),34,ps,#[⟨2,.gcOnly .lateStores⟩],none⟩).run Try.prog W=.ok (.value (.agg #[.int .i64 0,.int .i64 0,.int .u32 own,.int .u32 ak,.int .i64 16,.int .i64 wn,.int .i64 0,.int .i64 (-1),.int .i64 (-1),.bool false,.bool stamps,.int .u32 0,.int .u32 ec,.slice ka L kc,.slice none 0 0])) W:=by
        intro ps ev h0 W hSw
        rw [hS] at hSw
        obtain ⟨c0,c1,c2,c3,c4,c5,c6,c7,c8,c9,c10,c11,c12,c13,c14⟩:=Box.c15 hSw.2
        first|(go_simp;done)|(go_simp;with_reducible rfl)
       obtain ⟨U,hU⟩:∃ U,V.drew=U:=⟨_,rfl⟩
       have bU:Below V.heap.size V U:=by rw [← hU];exact Below.drew (Below.refl _ _)
       obtain ⟨X,hX⟩:∃ X,setAll U (w.heap.size+1) 0 [.int .i64 rn,.slice ua1 u uc1,.slice la1 n lc1,.int .i64 cap,.int .i64 shift,.int .i64 eg,.int .u32 recent,.bool stamps,.bool sacks,.int .i64 fin,.bool dn,.slice fa1 m fc1,.int .u32 irs,.int .u32 own,.bool stamp]=X:=⟨_,rfl⟩
       obtain ⟨X2,hX2⟩:∃ X2,setAll X (w.heap.size+1+1) 0 [.int .i64 0,.int .i64 0,.int .u32 own,.int .u32 ak,.int .i64 16,.int .i64 wn,.int .i64 0,.int .i64 (-1),.int .i64 (-1),.bool false,.bool stamps,.int .u32 0,.int .u32 ec,.slice ka L kc,.slice none 0 0]=X2:=⟨_,rfl⟩
       have hzr:=HV.out.2.2.1.later bU
       have hzs:=HV.out.2.2.2.1.later bU
       have hbx1:Box X (w.heap.size+1) 27 [.int .i64 rn,.slice ua1 u uc1,.slice la1 n lc1,.int .i64 cap,.int .i64 shift,.int .i64 eg,.int .u32 recent,.bool stamps,.bool sacks,.int .i64 fin,.bool dn,.slice fa1 m fc1,.int .u32 irs,.int .u32 own,.bool stamp]:=by rw [← hX];exact hzr.put _ rfl
       have hbs1:Box X (w.heap.size+1+1) 34 zS:=by rw [← hX];exact hzs.putAside _ _ _ (by omega)
       have hSd:S U:=by rw [hS];exact ⟨HV.out.1.later bU,HV.out.2.1.later bU⟩
       have hpw:p≠w.heap.size+1:=(HV.out.2.1).ne HV.out.2.2.1 (by decide)
       have hSX:S X:=by rw [hS,← hX];exact ⟨(HV.out.1.later bU).putAside _ _ _ (by omega),(HV.out.2.1.later bU).putAside _ _ _ hpw⟩
       have HF:Hid (Box X2 (w.heap.size+1) 27 [.int .i64 rn,.slice ua1 u uc1,.slice la1 n lc1,.int .i64 cap,.int .i64 shift,.int .i64 eg,.int .u32 recent,.bool stamps,.bool sacks,.int .i64 fin,.bool dn,.slice fa1 m fc1,.int .u32 irs,.int .u32 own,.bool stamp]∧Box X2 (w.heap.size+1+1) 34 [.int .i64 0,.int .i64 0,.int .u32 own,.int .u32 ak,.int .i64 16,.int .i64 wn,.int .i64 0,.int .i64 (-1),.int .i64 (-1),.bool false,.bool stamps,.int .u32 0,.int .u32 ec,.slice ka L kc,.slice none 0 0]∧RvOwn X2 w.heap.size r ⟨ua1,uc1,la1,lc1,es1,fa1,fc1⟩∧RowB X2 Bk ka L kc sk∧(∀ k,lies ka k→lies ba k∨w.heap.size+3≤k)∧Chg (lies ba) w X2):=by
        rw [← hX2]
        refine ⟨hbx1.putAside _ _ _ (by omega),hbs1.put _ rfl,RvOwn.besideS ?_ hbs1 0 _,zav ?_ hbs1 (by decide) _ _,HV.out.2.2.2.2.2.1,chg_all ?_ (by omega) _ _⟩
        · rw [← hX];exact (HV.out.2.2.2.2.2.2.2.later bU).besideR hzr 0 _
        · rw [← hX];exact zav (HV.out.2.2.2.2.1.later bU) hzr (by decide) _ _
        · rw [← hX];exact chg_all (HV.out.2.2.2.2.2.2.1.trans (Chg.of_below bU)) (by omega) _ _
       have hSd0:S V.drew:=by rw [hU];exact hSd
       refine zaq S 3 (by kernel_rfl) hSd0 (fun hHeld=>?_)
       rw [hU] at hHeld ⊢
       clear hU hSd0
       refine zk 0 (y0 _ rfl) ?_
       try simp only [Act.put,qA,qZ,qS]
       refine zk 1 (y1 _ rfl) ?_
       try simp only [Act.put,qA,qZ,qS]
       refine zah (i:=2) (o:=⟨none,.store 27 (.tmp 4) (.tmp 90),0,_,#[⟨0,.data⟩,⟨0,.phase⟩,⟨1,.textOnly .lateStores⟩],none⟩) (by kernel_rfl) rfl (fun K hK=>?_)
       refine wp_storeR rfl (.tmp 4) (.tmp 90) rfl rn cap shift eg recent fin irs own stamps sacks dn stamp ua1 u uc1 la1 n lc1 fa1 m fc1 (w.heap.size+1) rfl rfl hzr (fun v=>?_)
       rw [hX]
       refine hK.out _ _ ⟨fun _=>hSX,?_⟩
       clear hK K hHeld
       try simp only [Act.put,qA,qZ,qS]
       refine zah (i:=3) (o:=⟨none,.store 34 (.tmp 5) (.tmp 91),0,_,#[⟨1,.data⟩,⟨2,.chain⟩,⟨0,.phase⟩,⟨1,.phase⟩,⟨2,.phase⟩],none⟩) (by kernel_rfl) rfl (fun K hK=>?_)
       refine zd6 rfl (.tmp 5) (.tmp 91) rfl own ak wn stamps ec ka L kc (w.heap.size+1+1) rfl rfl rfl hbs1 hX2 (fun v=>?_)
       refine hK.out _ _ ⟨fun h=>absurd rfl h,?_⟩
       clear hK K
       refine zax (by kernel_rfl) ?_ _
       try simp only [Act.put,qA,qZ,qS]
       clear hX hX2 hzr hzs hbx1 hbs1 hSd hSX y0 y1 hS bU HV
       go_wp2_with fail
       refine bodyPost_ret (res_rs rfl _ _ (w.heap.size+1) (w.heap.size+1+1) _ _ rfl rfl rfl rfl HF.out.1 HF.out.2.1) rfl ?_
       exact ⟨ua1,uc1,la1,lc1,es1,fa1,fc1,ka,kc,rfl,HF.out.2.2⟩
end Go.Proofs.Ytkigcdmlkmcdcaa
