/- GRT: ReadT. -/
import Derived.Test.YtkigcdmlkmcdcaaQZ
import Derived.Test.YtkigcdmlkmcdcaaQGM
/- The contract of Read, where it tells. -/
namespace Go.Proofs.Ytkigcdmlkmcdcaa
open Go.ChangeShapes Go.WideShapes Go.ChangeAt Go.RowKit
set_option linter.unusedVariables false
set_option linter.unusedSimpArgs false
set_option maxRecDepth 100000 in
set_option maxHeartbeats 16000000 in
theorem zgz (r:Pl.Rv) (h:Hd) (n:Int) (w:World) (H:RvAt w r h) (hok:r.Ok) (HQ:Hid (Pl.rdB r n=true)) :
 Calls Try.prog 12 #[.agg #[.int .i64 r.s.n,.slice h.ua r.s.u.length h.uc,.slice h.la h.es.length h.lc,.int .i64 r.cap,.int .i64 r.shift,.int .i64 r.edge,.int .u32 r.recent,.bool r.stamps,.bool r.sacks,.int .i64 r.fin,.bool r.dn,.slice h.fa r.first.length h.fc,.int .u32 r.irs,.int .u32 r.own,.bool r.stamp],.int .i64 n] w fun e w'=>∃ (k:Hd) (da:Option Addr) (dc:Nat) (ks:Hs),e=.returned (.tuple #[.agg #[.int .i64 (Pl.readR r n).s.n,.slice k.ua (Pl.readR r n).s.u.length k.uc,.slice k.la k.es.length k.lc,.int .i64 (Pl.readR r n).cap,.int .i64 (Pl.readR r n).shift,.int .i64 (Pl.readR r n).edge,.int .u32 (Pl.readR r n).recent,.bool (Pl.readR r n).stamps,.bool (Pl.readR r n).sacks,.int .i64 (Pl.readR r n).fin,.bool (Pl.readR r n).dn,.slice k.fa (Pl.readR r n).first.length k.fc,.int .u32 (Pl.readR r n).irs,.int .u32 (Pl.readR r n).own,.bool (Pl.readR r n).stamp],.slice da (Pl.rdN r n) dc,.agg #[.int .i64 (readS r n).sp,.int .i64 (readS r n).dp,.int .u32 (readS r n).sq,.int .u32 (readS r n).ak,.int .i64 (readS r n).fl,.int .i64 (readS r n).wn,.int .i64 (readS r n).ur,.int .i64 (readS r n).ms,.int .i64 (readS r n).sc,.bool (readS r n).so,.bool (readS r n).st,.int .u32 (readS r n).va,.int .u32 (readS r n).ec,.slice ks.ka (readS r n).sk.length ks.kc,.slice ks.da (readS r n).da.length ks.dc],.bool (Pl.rdB r n),.int .i64 0])∧RvOwn w' (w.heap.size+3) (Pl.readR r n) k∧SlAt w' da dc (r.s.u.take (Pl.rdN r n))∧SgOwn w' (w.heap.size+3) (readS r n) ks∧Below w.heap.size w w':=by
 obtain ⟨W0,hW0⟩:∃ W0,((w.alloc (.cells #[.int .i64 r.s.n,.slice h.ua r.s.u.length h.uc,.slice h.la h.es.length h.lc,.int .i64 r.cap,.int .i64 r.shift,.int .i64 r.edge,.int .u32 r.recent,.bool r.stamps,.bool r.sacks,.int .i64 r.fin,.bool r.dn,.slice h.fa r.first.length h.fc,.int .u32 r.irs,.int .u32 r.own,.bool r.stamp] 27)).alloc (.cells zR.toArray 27)).alloc (.cells zS.toArray 34)=W0:=⟨_,rfl⟩
 obtain ⟨hX,hZ,hZS,hs0,b0⟩:Box W0 w.heap.size 27 (rvL r h)∧Box W0 (w.heap.size+1) 27 zR∧Box W0 (w.heap.size+2) 34 zS∧W0.heap.size=w.heap.size+3∧Below w.heap.size w W0:=by rw [← hW0];exact boxes3 w (rvL r h)
 have HH:Hid (RvAt w r h∧r.Ok):=⟨H,hok⟩
 have cC:=zbk r h W0 (H.later b0) hok
 have hNle:=Pl.cut_len r n
 have hcap:r.s.u.length≤h.uc:=H.un.2.2
 have hur:=H.un.1.1
 have cK:∀ W,Calls Try.prog 30 #[.int .i64 n,.int .i64 0,.int .i64 (r.s.u.length:Int)] W fun e w'=>e=.returned (.int .i64 (Pl.rdN r n:Int))∧w'=W:=fun W=>by
  have:=zgl n (r.s.u.length:Int) (by omega) W
  rw [rd_int] at this
  exact this
 obtain ⟨N,hN⟩:∃ N,Pl.rdN r n=N:=⟨_,rfl⟩
 have HN:Hid (Pl.rdN r n=N):=hN
 have hR:=H.cut n
 have hRok:=(Pl.cut_ok (n:=n) hok).1
 obtain ⟨r2,hr2⟩:∃ r2,Pl.cutR r n=r2:=⟨_,rfl⟩
 obtain ⟨U,hU⟩:∃ U,r.s.u.length=U:=⟨_,rfl⟩
 have HR:Hid (Pl.cutR r n=r2∧r.s.u.length=U∧r2.Ok):=⟨hr2,hU,hr2▸hRok⟩
 rw [hN] at hNle cK
 rw [hU] at hNle hcap hur cK
 have s1:=fun W=>sl_h h.ua U h.uc N (N:Int) rfl (by omega) W
 have s2:=fun W=>sl_l h.ua U h.uc N (N:Int) rfl (by omega) W
 unfold rvL at hX
 rw [hU] at cC hX hW0 ⊢
 have HX:Hid (_∧_∧_∧_∧_):=⟨hX,hZ,hZS,hs0,b0⟩
 obtain ⟨c0,c1,c2,c3,c4,c5,c6,c7,c8,c9,c10,c11,c12,c13,c14⟩:=Box.c15 hX
 clear hX hZ hZS hs0 b0 H hok hN hR hRok hr2 hU
 go_enter Try.func12,Try.ntmps12
 go_wp2_with fail
 refine cC.mono ?_
 rintro e w1 ⟨rfl,hB1⟩
 have HB1:Hid (Below W0.heap.size W0 w1):=hB1
 clear c0 c1 c2 c3 c4 c5 c6 c7 c8 c9 c10 c11 c12 c13 c14 cC hW0
 obtain ⟨c0,c1,c2,c3,c4,c5,c6,c7,c8,c9,c10,c11,c12,c13,c14⟩:=Box.c15 (HX.out.1.later hB1)
 clear hB1
 go_wp2_with (go_at_call 30;refine (cK _).mono ?_;rintro e w' ⟨rfl,hw'⟩;obtain rfl:=hw'.symm)
 have cB:=zcl h.ua h.uc (r.s.u.take N) w1 ((HH.out.1.un.later (Below.on HX.out.2.2.2.2 HB1.out)).take N)
 rw [show (r.s.u.take N).length=N by rw [List.length_take,HR.out.2.1];omega] at cB
 refine cB.mono ?_
 rintro e w2 ⟨da,dc,rfl,hD2,hB2⟩
 have HD:Hid (Row w2 w1.heap.size da N dc (r.s.u.take N)∧Below w1.heap.size w1 w2):=⟨hD2,hB2⟩
 have hx2:=(HX.out.1.later HB1.out).later hB2
 have hf1:=hx2.frozen 1
 obtain ⟨V,hV⟩:∃ V,w2.setCell ⟨w.heap.size,1,none⟩ (.slice (cutB h.ua h.uc N) (U-N) (h.uc-N))=V:=⟨_,rfl⟩
 have hr1:=HR.out.1
 have hlen:r2.s.u.length=U-N:=by rw [← hr1];show (r.s.u.drop (Pl.rdN r n)).length=U-N;rw [List.length_drop,HN.out,HR.out.2.1]
 obtain ⟨h2,hh2⟩:∃ h2:Hd,({ h with ua:=cutB h.ua h.uc N,uc:=h.uc-N}:Hd)=h2:=⟨_,rfl⟩
 have hxV:Box V w.heap.size 27 (rvL r2 h2):=by
  unfold rvL
  rw [← hV,← hh2,hlen,← hr1]
  exact hx2.set 1 _
 have hszV:V.heap.size=w2.heap.size:=by rw [← hV];simp [World.setCell]
 have hsz1:=HB1.out.size
 have hsz2:=hB2.size
 have hsz0:=HX.out.2.2.2.1
 have hzV:Box V (w.heap.size+1) 27 zR:=by rw [← hV];exact ((HX.out.2.1.later HB1.out).later hB2).aside _ _ _ (by omega)
 have hzsV:Box V (w.heap.size+2) 34 zS:=by rw [← hV];exact ((HX.out.2.2.1.later HB1.out).later hB2).aside _ _ _ (by omega)
 have hbV:Below w.heap.size w V:=by rw [← hV];exact zar (Below.on HX.out.2.2.2.2 (Below.on HB1.out hB2)) _ _ _ (Nat.le_refl _)
 have hdV:Row V (w.heap.size+3) da N dc (r.s.u.take N):=by rw [← hV];exact zas (hD2.mono (by omega)) _ _ _ (by omega)
 have hrV:RvAt V r2 h2:=by
  have:=(HH.out.1.later hbV).cut n
  rw [HN.out,hr1,hh2] at this
  exact this
 have cR:=zcr r2 h2 V hrV
 have HV:Hid (Box V w.heap.size 27 (rvL r2 h2)∧Box V (w.heap.size+1) 27 zR∧Box V (w.heap.size+2) 34 zS∧Below w.heap.size w V∧Row V (w.heap.size+3) da N dc (r.s.u.take N)∧w.heap.size+3≤V.heap.size):=⟨hxV,hzV,hzsV,hbV,hdV,by omega⟩
 have HV0:Hid (w2.setCell ⟨w.heap.size,1,none⟩ (.slice (cutB h.ua h.uc N) (U-N) (h.uc-N))=V):=hV
 clear c0 c1 c2 c3 c4 c5 c6 c7 c8 c9 c10 c11 c12 c13 c14 cB cK hD2 hB2 hV hr1 hlen hh2 hxV hszV hsz1 hsz2 hsz0 hzV hzsV hbV hdV
 obtain ⟨c0,c1,c2,c3,c4,c5,c6,c7,c8,c9,c10,c11,c12,c13,c14⟩:=Box.c15 hx2
 clear hx2
 go_upto_region 7 with fail
 rw [HV0.out]
 clear c0 c1 c2 c3 c4 c5 c6 c7 c8 c9 c10 c11 c12 c13 c14 hf1 HV0 s1 s2
 obtain ⟨c0,c1,c2,c3,c4,c5,c6,c7,c8,c9,c10,c11,c12,c13,c14⟩:=Box.c15 HV.out.1
 go_wp2_with fail
 refine cR.mono ?_
 rintro e w3 ⟨k,rfl,hO3,hB3⟩
 have hx3:=HV.out.1.later hB3
 obtain ⟨X,hX⟩:∃ X,setAll w3 w.heap.size 0 (rvL r2 k)=X:=⟨_,rfl⟩
 have hXc:(((((((((((((((w3.setCell ⟨w.heap.size,0,none⟩ (.int .i64 r2.s.n)).setCell ⟨w.heap.size,1,none⟩ (.slice k.ua r2.s.u.length k.uc)).setCell ⟨w.heap.size,2,none⟩ (.slice k.la k.es.length k.lc)).setCell ⟨w.heap.size,3,none⟩ (.int .i64 r2.cap)).setCell ⟨w.heap.size,4,none⟩ (.int .i64 r2.shift)).setCell ⟨w.heap.size,5,none⟩ (.int .i64 r2.edge)).setCell ⟨w.heap.size,6,none⟩ (.int .u32 r2.recent)).setCell ⟨w.heap.size,7,none⟩ (.bool r2.stamps)).setCell ⟨w.heap.size,8,none⟩ (.bool r2.sacks)).setCell ⟨w.heap.size,9,none⟩ (.int .i64 r2.fin)).setCell ⟨w.heap.size,10,none⟩ (.bool r2.dn)).setCell ⟨w.heap.size,11,none⟩ (.slice k.fa r2.first.length k.fc)).setCell ⟨w.heap.size,12,none⟩ (.int .u32 r2.irs)).setCell ⟨w.heap.size,13,none⟩ (.int .u32 r2.own)).setCell ⟨w.heap.size,14,none⟩ (.bool r2.stamp))=X:=hX
 have bX:Box X w.heap.size 27 (rvL r2 k):=by rw [← hX];exact hx3.put (rvL r2 k) rfl
 have bZ:Box X (w.heap.size+1) 27 zR:=by rw [← hX];exact (HV.out.2.1.later hB3).putAside _ _ _ (by omega)
 have bS:Box X (w.heap.size+2) 34 zS:=by rw [← hX];exact (HV.out.2.2.1.later hB3).putAside _ _ _ (by omega)
 have oX:RvOwn X (w.heap.size+3) r2 k:=by rw [← hX];exact (hO3.mono HV.out.2.2.2.2.2).aside _ _ _ (by omega)
 have lX:Below w.heap.size w X:=by rw [← hX];exact zaf (Nat.le_refl _) (Below.on HV.out.2.2.2.1 hB3)
 have dX:Row X (w.heap.size+3) da N dc (r.s.u.take N):=by rw [← hX];exact zam (HV.out.2.2.2.2.1.later hB3) _ _ _ (by omega)
 have sX:w.heap.size+3≤X.heap.size:=by
  have h1:=HV.out.2.2.2.2.2
  have h2:=hB3.size
  have h3:=(zaf (w:=w3) (a:=w3) (B:=0) (g:=w.heap.size) (i:=0) (vs:=rvL r2 k) (Nat.zero_le _) (Below.refl _ _)).size
  rw [hX] at h3
  omega
 have HXX:Hid (Box X w.heap.size 27 (rvL r2 k)∧Box X (w.heap.size+1) 27 zR∧Box X (w.heap.size+2) 34 zS∧RvOwn X (w.heap.size+3) r2 k∧Below w.heap.size w X∧Row X (w.heap.size+3) da N dc (r.s.u.take N)∧w.heap.size+3≤X.heap.size):=⟨bX,bZ,bS,oX,lX,dX,sX⟩
 have HXc:Hid ((((((((((((((((w3.setCell ⟨w.heap.size,0,none⟩ (.int .i64 r2.s.n)).setCell ⟨w.heap.size,1,none⟩ (.slice k.ua r2.s.u.length k.uc)).setCell ⟨w.heap.size,2,none⟩ (.slice k.la k.es.length k.lc)).setCell ⟨w.heap.size,3,none⟩ (.int .i64 r2.cap)).setCell ⟨w.heap.size,4,none⟩ (.int .i64 r2.shift)).setCell ⟨w.heap.size,5,none⟩ (.int .i64 r2.edge)).setCell ⟨w.heap.size,6,none⟩ (.int .u32 r2.recent)).setCell ⟨w.heap.size,7,none⟩ (.bool r2.stamps)).setCell ⟨w.heap.size,8,none⟩ (.bool r2.sacks)).setCell ⟨w.heap.size,9,none⟩ (.int .i64 r2.fin)).setCell ⟨w.heap.size,10,none⟩ (.bool r2.dn)).setCell ⟨w.heap.size,11,none⟩ (.slice k.fa r2.first.length k.fc)).setCell ⟨w.heap.size,12,none⟩ (.int .u32 r2.irs)).setCell ⟨w.heap.size,13,none⟩ (.int .u32 r2.own)).setCell ⟨w.heap.size,14,none⟩ (.bool r2.stamp))=X):=hXc
 clear c0 c1 c2 c3 c4 c5 c6 c7 c8 c9 c10 c11 c12 c13 c14 cR hO3 hB3 hX hXc bX bZ bS oX lX dX sX HV HD hrV HB1 HX
 obtain ⟨c0,c1,c2,c3,c4,c5,c6,c7,c8,c9,c10,c11,c12,c13,c14⟩:=Box.c15 hx3
 obtain ⟨f0,f1,f2,f3,f4,f5,f6,f7,f8,f9,f10,f11,f12,f13,f14⟩:=Box.f15 hx3
 clear hx3
 go_upto_region 8 with fail
 rw [HXc.out]
 clear c0 c1 c2 c3 c4 c5 c6 c7 c8 c9 c10 c11 c12 c13 c14 f0 f1 f2 f3 f4 f5 f6 f7 f8 f9 f10 f11 f12 f13 f14 HXc
 have hr2ok:=HR.out.2.2
 have cW:=fun W=>zcb r2 k W (zge hr2ok)
 have hwb:=Pl.window_bd hr2ok.uc
 have hnb:=hr2ok.nf
 have hn0:=hr2ok.n0
 have hc1:=hr2ok.c1
 have hcm:=hr2ok.cm
 have he0:=hr2ok.e0
 have her:=hr2ok.er
 have hun:=hr2ok.un
 unfold Pl.farI at hnb
 unfold Pl.Rv.reach Pl.Rx.bot at her
 obtain ⟨wd,hwd⟩:∃ wd,r2.window=wd:=⟨_,rfl⟩
 simp only [hwd] at cW hwb
 obtain ⟨c2,hc2⟩:∃ c2,r2.cap / 2=c2:=⟨_,rfl⟩
 obtain ⟨mx,hmx⟩:∃ mx,(if c2<1 then 1 else c2)=mx:=⟨_,rfl⟩
 have hrd:Pl.rdB r n=decide (mx≤r2.s.n+wd-r2.edge):=by
  rw [← hwd,← hmx,← hc2,← HR.out.1];rfl
 have HRD:Hid (Pl.rdB r n=decide (mx≤r2.s.n+wd-r2.edge)∧r2.window=wd):=⟨hrd,hwd⟩
 have hwr1:IntKind.i64.wrap (r2.s.n+wd)=r2.s.n+wd:=by rw [IntKind.wrap_i64];omega
 have hwr2:IntKind.i64.wrap (r2.s.n+wd-r2.edge)=r2.s.n+wd-r2.edge:=by rw [IntKind.wrap_i64];omega
 have hq:Int.tdiv r2.cap 2=c2:=by rw [← hc2];exact Int.tdiv_eq_ediv_of_nonneg (by omega)
 have hwr3:IntKind.i64.wrap c2=c2:=by rw [IntKind.wrap_i64];omega
 clear hc2 hr2ok hwd hrd her hun
 obtain ⟨S,hS⟩:∃ S:World→Prop,S=fun W=>W.cell? ⟨w.heap.size,0,none⟩=some (.int .i64 r2.s.n)∧W.cell? ⟨w.heap.size,1,none⟩=some (.slice k.ua r2.s.u.length k.uc)∧W.cell? ⟨w.heap.size,2,none⟩=some (.slice k.la k.es.length k.lc)∧W.cell? ⟨w.heap.size,3,none⟩=some (.int .i64 r2.cap)∧W.cell? ⟨w.heap.size,4,none⟩=some (.int .i64 r2.shift)∧W.cell? ⟨w.heap.size,5,none⟩=some (.int .i64 r2.edge)∧W.cell? ⟨w.heap.size,6,none⟩=some (.int .u32 r2.recent)∧W.cell? ⟨w.heap.size,7,none⟩=some (.bool r2.stamps)∧W.cell? ⟨w.heap.size,8,none⟩=some (.bool r2.sacks)∧W.cell? ⟨w.heap.size,9,none⟩=some (.int .i64 r2.fin)∧W.cell? ⟨w.heap.size,10,none⟩=some (.bool r2.dn)∧W.cell? ⟨w.heap.size,11,none⟩=some (.slice k.fa r2.first.length k.fc)∧W.cell? ⟨w.heap.size,12,none⟩=some (.int .u32 r2.irs)∧W.cell? ⟨w.heap.size,13,none⟩=some (.int .u32 r2.own)∧W.cell? ⟨w.heap.size,14,none⟩=some (.bool r2.stamp):=⟨_,rfl⟩
 have HSK:Hid (∀ W,Below X.heap.size X W→S W):=fun W hW=>by
  rw [hS]
  exact Box.c15 (HXX.out.1.later hW)
 obtain ⟨y0,y1,y2,y4,y5,y6,y7,y8,y9,y10,y11,y12⟩:(∀ {ps} (ev:EV),ev (.tmp 2)=.pointer (some ⟨w.heap.size,0,none⟩)→Yl Try.prog S ev ⟨some 36,.fieldAddr 27 (.tmp 2) 0,0,ps,#[],none⟩ ((.pointer (some ⟨w.heap.size,0,none⟩))))∧(∀ {ps} (ev:EV),ev (.tmp 36)=.pointer (some ⟨w.heap.size,0,none⟩)→Yl Try.prog S ev ⟨some 37,.load 3 (.tmp 36),3,ps,#[⟨0,.data⟩],none⟩ ((.int .i64 r2.s.n)))∧(∀ {ps} (ev:EV),ev (.tmp 2)=.pointer (some ⟨w.heap.size,0,none⟩)→Yl Try.prog S ev ⟨some 38,.load 27 (.tmp 2),27,ps,#[],none⟩ ((.agg #[.int .i64 r2.s.n,.slice k.ua r2.s.u.length k.uc,.slice k.la k.es.length k.lc,.int .i64 r2.cap,.int .i64 r2.shift,.int .i64 r2.edge,.int .u32 r2.recent,.bool r2.stamps,.bool r2.sacks,.int .i64 r2.fin,.bool r2.dn,.slice k.fa r2.first.length k.fc,.int .u32 r2.irs,.int .u32 r2.own,.bool r2.stamp])))∧(∀ {ps} (ev:EV),ev (.tmp 37)=.int .i64 r2.s.n→ev (.tmp 39)=.int .i64 wd→Yl Try.prog S ev ⟨some 40,.binOp .add 3 (.tmp 37) (.tmp 39) 3,3,ps,#[⟨1,.data⟩,⟨3,.data⟩],none⟩ ((.int .i64 (r2.s.n+wd))))∧(∀ {ps} (ev:EV),ev (.tmp 2)=.pointer (some ⟨w.heap.size,0,none⟩)→Yl Try.prog S ev ⟨some 41,.fieldAddr 27 (.tmp 2) 5,0,ps,#[],none⟩ ((.pointer (some ⟨w.heap.size,5,none⟩))))∧(∀ {ps} (ev:EV),ev (.tmp 41)=.pointer (some ⟨w.heap.size,5,none⟩)→Yl Try.prog S ev ⟨some 42,.load 3 (.tmp 41),3,ps,#[⟨5,.data⟩],none⟩ ((.int .i64 r2.edge)))∧(∀ {ps} (ev:EV),ev (.tmp 40)=.int .i64 (r2.s.n+wd)→ev (.tmp 42)=.int .i64 r2.edge→Yl Try.prog S ev ⟨some 43,.binOp .sub 3 (.tmp 40) (.tmp 42) 3,3,ps,#[⟨4,.data⟩,⟨6,.data⟩],none⟩ ((.int .i64 (r2.s.n+wd-r2.edge))))∧(∀ {ps} (ev:EV),ev (.tmp 2)=.pointer (some ⟨w.heap.size,0,none⟩)→Yl Try.prog S ev ⟨some 44,.fieldAddr 27 (.tmp 2) 3,0,ps,#[],none⟩ ((.pointer (some ⟨w.heap.size,3,none⟩))))∧(∀ {ps} (ev:EV),ev (.tmp 44)=.pointer (some ⟨w.heap.size,3,none⟩)→Yl Try.prog S ev ⟨some 45,.load 3 (.tmp 44),3,ps,#[⟨8,.data⟩],none⟩ ((.int .i64 r2.cap)))∧(∀ {ps} (ev:EV),ev (.tmp 45)=.int .i64 r2.cap→ev (.const (.int .i64 2))=.int .i64 2→Yl Try.prog S ev ⟨some 46,.binOp .quo 3 (.tmp 45) (.const (.int .i64 2)) 3,3,ps,#[⟨9,.data⟩],none⟩ ((.int .i64 c2)))∧(∀ {ps} (ev:EV),ev (.tmp 46)=.int .i64 c2→ev (.const (.int .i64 1))=.int .i64 1→Yl Try.prog S ev ⟨some 47,.call { callee:=.builtin .max,args:=#[.tmp 46,.const (.int .i64 1)],argTypes:=#[3,3]},3,ps,#[⟨10,.data⟩],none⟩ ((.int .i64 mx)))∧(∀ {ps} (ev:EV),ev (.tmp 43)=.int .i64 (r2.s.n+wd-r2.edge)→ev (.tmp 47)=.int .i64 mx→Yl Try.prog S ev ⟨some 48,.binOp .lss 3 (.tmp 43) (.tmp 47) 3,4,ps,#[⟨7,.data⟩,⟨11,.data⟩],none⟩ ((.bool (decide (r2.s.n+wd-r2.edge<mx))))):=by
  refine ⟨?_,?_,?_,?_,?_,?_,?_,?_,?_,?_,?_,?_⟩<;>(intros;intro W hSw;rw [hS] at hSw;(try dsimp only at hSw);go_simp<;>with_reducible rfl)
 refine zbh (fun W=>S W∧Below X.heap.size X W) (by kernel_rfl) (by kernel_rfl) ?hC ?_
 case hC=>exact ⟨HSK.out _ (by repeat (first|with_reducible exact Below.refl _ _|with_reducible assumption|with_reducible refine Below.drew ?_|with_reducible refine zad ?_ _|with_reducible refine zaa ?_ _)),by repeat (first|with_reducible exact Below.refl _ _|with_reducible assumption|with_reducible refine Below.drew ?_|with_reducible refine zad ?_ _|with_reducible refine zaa ?_ _)⟩
 refine zag (by rfl) (zai (fun W hW=>y0 _ rfl W hW.1) ?_)
 try simp only [Act.put,qA,qZ,qS]
 refine zag (by rfl) (zai (fun W hW=>y1 _ rfl W hW.1) ?_)
 try simp only [Act.put,qA,qZ,qS]
 refine zag (by rfl) (zai (fun W hW=>y2 _ rfl W hW.1) ?_)
 try simp only [Act.put,qA,qZ,qS]
 refine zag (by rfl) (zcd (v:=.int .i64 wd) (f:=29) (args:=#[.agg #[.int .i64 r2.s.n,.slice k.ua r2.s.u.length k.uc,.slice k.la k.es.length k.lc,.int .i64 r2.cap,.int .i64 r2.shift,.int .i64 r2.edge,.int .u32 r2.recent,.bool r2.stamps,.bool r2.sacks,.int .i64 r2.fin,.bool r2.dn,.slice k.fa r2.first.length k.fc,.int .u32 r2.irs,.int .u32 r2.own,.bool r2.stamp]]) ?hy3 ?hc3 ?rest3)
 case hy3=>(intro w hSw;(try dsimp only at hSw);first|(go_simp;done)|(go_simp;with_reducible rfl))
 case hc3=>(intro w hSw;refine (cW w).mono ?_;rintro e w1 ⟨rfl,hB⟩;exact ⟨rfl,HSK.out _ (Below.on hSw.2 hB),Below.on hSw.2 hB⟩)
 try simp only [Act.put,qA,qZ,qS]
 refine zag (by rfl) (zai (fun W hW=>y4 _ rfl rfl W hW.1) ?_)
 try simp only [Act.put,qA,qZ,qS]
 refine zag (by rfl) (zai (fun W hW=>y5 _ rfl W hW.1) ?_)
 try simp only [Act.put,qA,qZ,qS]
 refine zag (by rfl) (zai (fun W hW=>y6 _ rfl W hW.1) ?_)
 try simp only [Act.put,qA,qZ,qS]
 refine zag (by rfl) (zai (fun W hW=>y7 _ rfl rfl W hW.1) ?_)
 try simp only [Act.put,qA,qZ,qS]
 refine zag (by rfl) (zai (fun W hW=>y8 _ rfl W hW.1) ?_)
 try simp only [Act.put,qA,qZ,qS]
 refine zag (by rfl) (zai (fun W hW=>y9 _ rfl W hW.1) ?_)
 try simp only [Act.put,qA,qZ,qS]
 refine zag (by rfl) (zai (fun W hW=>y10 _ rfl rfl W hW.1) ?_)
 try simp only [Act.put,qA,qZ,qS]
 refine zag (by rfl) (zai (fun W hW=>y11 _ rfl rfl W hW.1) ?_)
 try simp only [Act.put,qA,qZ,qS]
 refine zag (by rfl) (zai (fun W hW=>y12 _ rfl rfl W hW.1) ?_)
 try simp only [Act.put,qA,qZ,qS]
 refine wpQuiet_nil ?_
 intro W8 hC8
 have HC8:Hid (Below X.heap.size X W8):=hC8.2
 clear hC8 y0 y1 y2 y4 y5 y6 y7 y8 y9 y10 y11 y12 hS HSK hwr1 hwr2 hwr3 hq hmx hwb hnb hn0 hc1 hcm he0 cW
 by_cases g:r2.s.n+wd-r2.edge<mx
 · exact absurd (HQ.out.symm.trans (show Pl.rdB r n=false by rw [HRD.out.1];simp;omega)) (by simp)
 · have hrd:Pl.rdB r n=true:=by rw [HRD.out.1];simp;omega
   have HE:Hid (Pl.rdB r n=true∧Pl.readR r n=Pl.tellR r2∧readS r n=tellS r2 r2.first):=⟨hrd,by unfold Pl.readR;rw [hrd];simp [HR.out.1],by unfold readS;rw [hrd,if_pos rfl,HR.out.1];congr 1;rw [← HR.out.1];rfl⟩
   clear hrd HRD
   have hx8:=HXX.out.1.later HC8.out
   obtain ⟨c0,c1,c2,c3,c4,c5,c6,c7,c8,c9,c10,c11,c12,c13,c14⟩:=Box.c15 hx8
   have hO8:=HXX.out.2.2.2.1.later HC8.out
   have cT:=told_any r2 k k.fa r2.first.length k.fc r2.first W8 HR.out.2.2 (hO8.fst.sp hO8.frc) rfl
   clear hO8
   go_wp2_with fail
   refine cT.mono ?_
   rintro e w9 ⟨ks,rfl,hG9,hB9⟩
   clear c0 c1 c2 c3 c4 c5 c6 c7 c8 c9 c10 c11 c12 c13 c14 cT
   have hx9:=(hx8.later hB9).alloc (.cells zS.toArray 34)
   have hn9:=Box.new w9 34 zS
   have hlt:w.heap.size<w9.heap.size:=by
    have h1:=HXX.out.2.2.2.2.2.2
    have h2:=HC8.out.size
    have h3:=hB9.size
    omega
   have hne:¬w.heap.size=w9.heap.size:=by omega
   have hne':¬w9.heap.size=w.heap.size:=by omega
   obtain ⟨Wa,hWa⟩:∃ Wa,w9.alloc (.cells zS.toArray 34)=Wa:=⟨_,rfl⟩
   have hn9':Box Wa w9.heap.size 34 zS:=by rw [← hWa];exact hn9
   rw [hWa] at hx9
   clear hx8 hlt hn9
   obtain ⟨c0,c1,c2,c3,c4,c5,c6,c7,c8,c9,c10,c11,c12,c13,c14⟩:=Box.c15 hx9
   obtain ⟨f0,f1,f2,f3,f4,f5,f6,f7,f8,f9,f10,f11,f12,f13,f14⟩:=Box.f15 hx9
   obtain ⟨d0,d1,d2,d3,d4,d5,d6,d7,d8,d9,d10,d11,d12,d13,d14⟩:=Box.c15 hn9'
   obtain ⟨e0,e1,e2,e3,e4,e5,e6,e7,e8,e9,e10,e11,e12,e13,e14⟩:=Box.f15 hn9'
   go_upto_region 11 with fail
   clear c0 c1 c2 c3 c4 c5 c6 c7 c8 c9 c10 c11 c12 c13 c14 d0 d1 d2 d3 d4 d5 d6 d7 d8 d9 d10 d11 d12 d13 d14 e0 e1 e2 e3 e4 e5 e6 e7 e8 e9 e10 e11 e12 e13 e14 f0 f1 f2 f3 f4 f5 f6 f7 f8 f9 f10 f11 f12 f13 f14
   obtain ⟨P1,hP1⟩:∃ P1,setAll Wa w.heap.size 0 (rvL (Pl.tellR r2) k)=P1:=⟨_,rfl⟩
   obtain ⟨Yb,hYb⟩:∃ Yb,setAll P1 w9.heap.size 0 (sgL (tellS r2 r2.first) ks)=Yb:=⟨_,rfl⟩
   have hYc:setAll (setAll Wa w.heap.size 0 (rvL (Pl.tellR r2) k)) w9.heap.size 0 (sgL (tellS r2 r2.first) ks)=Yb:=by rw [hP1];exact hYb
   refine ze3 hYc ?_
   clear hYc
   have hWb:Below w9.heap.size w9 Wa:=by rw [← hWa];exact zaa (Below.refl _ _) _
   have hXa:Below X.heap.size X Wa:=Below.on HC8.out (Below.on hB9 hWb)
   have s9:W8.heap.size≤w9.heap.size:=hB9.size
   have s8:=HC8.out.size
   have sX:=HXX.out.2.2.2.2.2.2
   have pR:Box P1 w.heap.size 27 (rvL (Pl.tellR r2) k):=by rw [← hP1];exact hx9.put _ rfl
   have pG:Box P1 w9.heap.size 34 zS:=by rw [← hP1];exact hn9'.putAside _ _ _ (by omega)
   have pZ:Box P1 (w.heap.size+1) 27 zR:=by rw [← hP1];exact (HXX.out.2.1.later hXa).putAside _ _ _ (by omega)
   have pS:Box P1 (w.heap.size+2) 34 zS:=by rw [← hP1];exact (HXX.out.2.2.1.later hXa).putAside _ _ _ (by omega)
   have pO:RvOwn P1 (w.heap.size+3) (Pl.tellR r2) k:=by rw [← hP1];exact ((HXX.out.2.2.2.1.later hXa).tell).aside _ _ _ (by omega)
   have pN:SgOwn P1 (w.heap.size+3) (tellS r2 r2.first) ks:=by rw [← hP1];exact (SgOwn.mono (hG9.later hWb) (by omega)).aside _ _ _ (by omega)
   have pD:Row P1 (w.heap.size+3) da N dc (r.s.u.take N):=by rw [← hP1];exact zam (HXX.out.2.2.2.2.2.1.later hXa) _ _ _ (by omega)
   have pB:Below w.heap.size w P1:=by rw [← hP1];exact zaf (Nat.le_refl _) (Below.on HXX.out.2.2.2.2.1 hXa)
   have HYb:Hid (Box Yb w.heap.size 27 (rvL (Pl.tellR r2) k)∧Box Yb w9.heap.size 34 (sgL (tellS r2 r2.first) ks)∧Box Yb (w.heap.size+1) 27 zR∧Box Yb (w.heap.size+2) 34 zS∧RvOwn Yb (w.heap.size+3) (Pl.tellR r2) k∧SgOwn Yb (w.heap.size+3) (tellS r2 r2.first) ks∧Row Yb (w.heap.size+3) da N dc (r.s.u.take N)∧Below w.heap.size w Yb∧w.heap.size+3≤w9.heap.size):=by
    rw [← hYb]
    exact ⟨pR.putAside _ _ _ (by omega),pG.put _ rfl,pZ.putAside _ _ _ (by omega),pS.putAside _ _ _ (by omega),pO.besideS pG _ _,pN.besideS pG _ _,zaw (by decide) _ _ _ _ pD pG,zaf (by omega) pB,by omega⟩
   clear hWb hXa s9 s8 sX pR pG pZ pS pO pN pD pB hP1 hYb hx9 hn9' hWa hne hne' hB9 hG9 HXX HC8
   obtain ⟨S,hS⟩:∃ S:World→Prop,S=fun W=>Box W w.heap.size 27 (rvL (Pl.tellR r2) k)∧Box W w9.heap.size 34 [.int .i64 (tellS r2 (r2.first)).sp,.int .i64 (tellS r2 (r2.first)).dp,.int .u32 (tellS r2 (r2.first)).sq,.int .u32 (tellS r2 (r2.first)).ak,.int .i64 (tellS r2 (r2.first)).fl,.int .i64 (tellS r2 (r2.first)).wn,.int .i64 (tellS r2 (r2.first)).ur,.int .i64 (tellS r2 (r2.first)).ms,.int .i64 (tellS r2 (r2.first)).sc,.bool (tellS r2 (r2.first)).so,.bool (tellS r2 (r2.first)).st,.int .u32 (tellS r2 (r2.first)).va,.int .u32 (tellS r2 (r2.first)).ec,.slice ks.ka (tellS r2 (r2.first)).sk.length ks.kc,.slice ks.da (tellS r2 (r2.first)).da.length ks.dc]:=⟨_,rfl⟩
   have y0:∀ {ps:String} (ev:Operand→Value),ev (.tmp 2)=.pointer (some ⟨w.heap.size,0,none⟩)→∀ W,S W→(execOp ev ⟨some 59,.load 27 (.tmp 2),27,ps,#[],none⟩).run Try.prog W=.ok (.value (.agg #[.int .i64 (Pl.tellR r2).s.n,.slice k.ua (Pl.tellR r2).s.u.length k.uc,.slice k.la k.es.length k.lc,.int .i64 (Pl.tellR r2).cap,.int .i64 (Pl.tellR r2).shift,.int .i64 (Pl.tellR r2).edge,.int .u32 (Pl.tellR r2).recent,.bool (Pl.tellR r2).stamps,.bool (Pl.tellR r2).sacks,.int .i64 (Pl.tellR r2).fin,.bool (Pl.tellR r2).dn,.slice k.fa (Pl.tellR r2).first.length k.fc,.int .u32 (Pl.tellR r2).irs,.int .u32 (Pl.tellR r2).own,.bool (Pl.tellR r2).stamp])) W:=by
    intro ps ev h0 W hSw
    rw [hS] at hSw
    obtain ⟨c0,c1,c2,c3,c4,c5,c6,c7,c8,c9,c10,c11,c12,c13,c14⟩:=Box.c15 hSw.1
    first|(go_simp;done)|(go_simp;with_reducible rfl)
   have y1:∀ {ps:String} (ev:Operand→Value),ev (.tmp 10)=.slice da N dc→∀ W,S W→(execOp ev ⟨some 60,.move (.tmp 10),22,ps,#[⟨3,.gcOnly .lateStores⟩],none⟩).run Try.prog W=.ok (.value (.slice da N dc)) W:=by
    intro ps ev h0 W hSw
    rw [hS] at hSw
    try dsimp only at hSw
    first|(go_simp;done)|(go_simp;with_reducible rfl)
   have y2:∀ {ps:String} (ev:Operand→Value),ev (.tmp 11)=.pointer (some ⟨w9.heap.size,0,none⟩)→∀ W,S W→(execOp ev ⟨some 61,.load 34 (.tmp 11),34,ps,#[⟨4,.gcOnly .lateStores⟩],none⟩).run Try.prog W=.ok (.value (.agg #[.int .i64 (tellS r2 (r2.first)).sp,.int .i64 (tellS r2 (r2.first)).dp,.int .u32 (tellS r2 (r2.first)).sq,.int .u32 (tellS r2 (r2.first)).ak,.int .i64 (tellS r2 (r2.first)).fl,.int .i64 (tellS r2 (r2.first)).wn,.int .i64 (tellS r2 (r2.first)).ur,.int .i64 (tellS r2 (r2.first)).ms,.int .i64 (tellS r2 (r2.first)).sc,.bool (tellS r2 (r2.first)).so,.bool (tellS r2 (r2.first)).st,.int .u32 (tellS r2 (r2.first)).va,.int .u32 (tellS r2 (r2.first)).ec,.slice ks.ka (tellS r2 (r2.first)).sk.length ks.kc,.slice ks.da (tellS r2 (r2.first)).da.length ks.dc])) W:=by
    intro ps ev h0 W hSw
    rw [hS] at hSw
    obtain ⟨c0,c1,c2,c3,c4,c5,c6,c7,c8,c9,c10,c11,c12,c13,c14⟩:=Box.c15 hSw.2
    first|(go_simp;done)|(go_simp;with_reducible rfl)
   obtain ⟨y4,y6⟩:(∀ {ps} (ev:EV),ev (.tmp 60)=.slice da N dc→Yl Try.prog S ev ⟨some 5,.assign (.tmp 60),22,ps,#[⟨1,.data⟩,⟨3,.chain⟩,⟨0,.phase⟩,⟨1,.phase⟩,⟨2,.textOnly .lateStores⟩,⟨3,.phase⟩],none⟩ ((.slice da N dc)))∧(∀ {ps} (ev:EV),ev (.const (.bool true))=.bool true→Yl Try.prog S ev ⟨some 7,.assign (.const (.bool true)),4,ps,#[⟨5,.chain⟩,⟨0,.phase⟩,⟨1,.phase⟩,⟨2,.phase⟩,⟨3,.phase⟩,⟨4,.phase⟩,⟨5,.phase⟩],none⟩ ((.bool true))):=by
    refine ⟨?_,?_⟩<;>(intros;intro W hSw;rw [hS] at hSw;(try dsimp only at hSw);go_simp<;>with_reducible rfl)
   have hdr:Below Yb.heap.size Yb Yb.drew:=Below.drew (Below.refl _ _)
   have hSd:S Yb.drew:=by rw [hS];exact ⟨HYb.out.1.later hdr,HYb.out.2.1.later hdr⟩
   have z1:=HYb.out.2.2.1.later hdr
   have z2:=HYb.out.2.2.2.1.later hdr
   have sz:=HYb.out.2.2.2.2.2.2.2.2
   obtain ⟨X3,hX3⟩:∃ X3,setAll Yb.drew (w.heap.size+1) 0 (rvL (Pl.tellR r2) k)=X3:=⟨_,rfl⟩
   have hS3:S X3:=by rw [hS,← hX3];exact ⟨(HYb.out.1.later hdr).putAside _ _ _ (by omega),(HYb.out.2.1.later hdr).putAside _ _ _ (by omega)⟩
   have z3:Box X3 (w.heap.size+1) 27 (rvL (Pl.tellR r2) k):=by rw [← hX3];exact z1.put _ rfl
   have z4:Box X3 (w.heap.size+2) 34 zS:=by rw [← hX3];exact z2.putAside _ _ _ (by omega)
   have o3:RvOwn X3 (w.heap.size+3) (Pl.tellR r2) k:=by rw [← hX3];exact (HYb.out.2.2.2.2.1.later hdr).aside _ _ _ (by omega)
   have g3:SgOwn X3 (w.heap.size+3) (tellS r2 r2.first) ks:=by rw [← hX3];exact (HYb.out.2.2.2.2.2.1.later hdr).aside _ _ _ (by omega)
   have d3:Row X3 (w.heap.size+3) da N dc (r.s.u.take N):=by rw [← hX3];exact zam (HYb.out.2.2.2.2.2.2.1.later hdr) _ _ _ (by omega)
   have l3:Below w.heap.size w X3:=by rw [← hX3];exact zaf (by omega) (Below.on HYb.out.2.2.2.2.2.2.2.1 hdr)
   obtain ⟨X5,hX5⟩:∃ X5,setAll X3 (w.heap.size+2) 0 (sgL (tellS r2 r2.first) ks)=X5:=⟨_,rfl⟩
   have hS5:S X5:=by
    rw [hS] at hS3 ⊢
    rw [← hX5];exact ⟨hS3.1.putAside _ _ _ (by omega),hS3.2.putAside _ _ _ (by omega)⟩
   have HF:Hid (Box X5 (w.heap.size+1) 27 (rvL (Pl.tellR r2) k)∧Box X5 (w.heap.size+2) 34 (sgL (tellS r2 r2.first) ks)∧RvOwn X5 (w.heap.size+3) (Pl.tellR r2) k∧SgOwn X5 (w.heap.size+3) (tellS r2 r2.first) ks∧Row X5 (w.heap.size+3) da N dc (r.s.u.take N)∧Below w.heap.size w X5):=by
    rw [← hX5]
    exact ⟨z3.putAside _ _ _ (by omega),z4.put _ rfl,o3.aside _ _ _ (by omega),g3.aside _ _ _ (by omega),zam d3 _ _ _ (by omega),zaf (by omega) l3⟩
   have HXY:Hid (setAll Yb.drew (w.heap.size+1) 0 (rvL (Pl.tellR r2) k)=X3∧setAll X3 (w.heap.size+2) 0 (sgL (tellS r2 r2.first) ks)=X5):=⟨hX3,hX5⟩
   clear hX3 hX5 o3 g3 d3 l3 z3 z2 sz HYb hdr
   refine zaq S 7 (by kernel_rfl) hSd (fun hHeld=>?_)
   refine zk 0 (y0 _ rfl) ?_
   try simp only [Act.put,qA,qZ,qS]
   refine zk 1 (y1 _ rfl) ?_
   try simp only [Act.put,qA,qZ,qS]
   refine zk 2 (y2 _ rfl) ?_
   try simp only [Act.put,qA,qZ,qS]
   refine zah (i:=3) (o:=⟨none,.store 27 (.tmp 4) (.tmp 59),0,_,#[⟨0,.data⟩,⟨0,.phase⟩,⟨1,.textOnly .lateStores⟩,⟨2,.textOnly .lateStores⟩],none⟩) (by kernel_rfl) rfl (fun K hK=>?_)
   refine zbx rfl (.tmp 4) (.tmp 59) rfl (Pl.tellR r2) k (w.heap.size+1) (cs:=zR) rfl rfl rfl z1 HXY.out.1 (fun v=>?_)
   refine hK.out _ _ ⟨fun _=>hS3,?_⟩
   clear hK K hHeld hSd
   try simp only [Act.put,qA,qZ,qS]
   refine zk 4 (y4 _ rfl) ?_
   try simp only [Act.put,qA,qZ,qS]
   refine zah (i:=5) (o:=⟨none,.store 34 (.tmp 6) (.tmp 61),0,_,#[⟨2,.data⟩,⟨4,.chain⟩,⟨0,.phase⟩,⟨1,.phase⟩,⟨2,.phase⟩,⟨3,.phase⟩,⟨4,.phase⟩],none⟩) (by kernel_rfl) rfl (fun K hK=>?_)
   refine zd5 rfl (.tmp 6) (.tmp 61) rfl (tellS r2 r2.first) ks (w.heap.size+2) (cs:=zS) rfl rfl rfl z4 HXY.out.2 (fun v=>?_)
   refine hK.out _ _ ⟨fun _=>hS5,?_⟩
   clear hK K
   try simp only [Act.put,qA,qZ,qS]
   refine zk 6 (y6 _ rfl) ?_
   try simp only [Act.put,qA,qZ,qS]
   refine zah (i:=7) (o:=⟨some 8,.assign (.const (.int .i64 0)),28,_,#[⟨6,.chain⟩,⟨0,.phase⟩,⟨1,.phase⟩,⟨2,.phase⟩,⟨3,.phase⟩,⟨4,.phase⟩,⟨5,.phase⟩,⟨6,.phase⟩],none⟩) (by kernel_rfl) rfl (fun K hK=>?_)
   rw [if_pos (by rfl)]
   go_simp
   refine hK.out _ _ ⟨fun h=>absurd rfl h,?_⟩
   clear hK K
   refine zax (by kernel_rfl) ?_ _
   try simp only [Act.put,qA,qZ,qS]
   clear z1 z4 hS3 hS5 y0 y1 y2 y4 y6 hS HXY
   go_wp2_with fail
   refine bodyPost_ret (res_rtstt rfl _ _ (w.heap.size+1) (w.heap.size+2) _ _ rfl rfl rfl rfl HF.out.1 HF.out.2.1) rfl ?_
   rw [HE.out.1,HE.out.2.1,HE.out.2.2,HN.out]
   exact ⟨k,da,dc,ks,rfl,HF.out.2.2.1,HF.out.2.2.2.2.1.sl (fun x hx=>(HH.out.1.un.1.2.1 x (List.mem_of_mem_take hx))) (by rw [List.length_take,HR.out.2.1];omega),HF.out.2.2.2.1,HF.out.2.2.2.2.2⟩
theorem recvRead_ok (r:Pl.Rv) (h:Hd) (n:Int) (w:World) (H:RvAt w r h) (hok:r.Ok) :
 Calls Try.prog 12 #[.agg #[.int .i64 r.s.n,.slice h.ua r.s.u.length h.uc,.slice h.la h.es.length h.lc,.int .i64 r.cap,.int .i64 r.shift,.int .i64 r.edge,.int .u32 r.recent,.bool r.stamps,.bool r.sacks,.int .i64 r.fin,.bool r.dn,.slice h.fa r.first.length h.fc,.int .u32 r.irs,.int .u32 r.own,.bool r.stamp],.int .i64 n] w fun e w'=>∃ (k:Hd) (da:Option Addr) (dc:Nat) (ks:Hs),e=.returned (.tuple #[.agg #[.int .i64 (Pl.readR r n).s.n,.slice k.ua (Pl.readR r n).s.u.length k.uc,.slice k.la k.es.length k.lc,.int .i64 (Pl.readR r n).cap,.int .i64 (Pl.readR r n).shift,.int .i64 (Pl.readR r n).edge,.int .u32 (Pl.readR r n).recent,.bool (Pl.readR r n).stamps,.bool (Pl.readR r n).sacks,.int .i64 (Pl.readR r n).fin,.bool (Pl.readR r n).dn,.slice k.fa (Pl.readR r n).first.length k.fc,.int .u32 (Pl.readR r n).irs,.int .u32 (Pl.readR r n).own,.bool (Pl.readR r n).stamp],.slice da (Pl.rdN r n) dc,.agg #[.int .i64 (readS r n).sp,.int .i64 (readS r n).dp,.int .u32 (readS r n).sq,.int .u32 (readS r n).ak,.int .i64 (readS r n).fl,.int .i64 (readS r n).wn,.int .i64 (readS r n).ur,.int .i64 (readS r n).ms,.int .i64 (readS r n).sc,.bool (readS r n).so,.bool (readS r n).st,.int .u32 (readS r n).va,.int .u32 (readS r n).ec,.slice ks.ka (readS r n).sk.length ks.kc,.slice ks.da (readS r n).da.length ks.dc],.bool (Pl.rdB r n),.int .i64 0])∧RvOwn w' (w.heap.size+3) (Pl.readR r n) k∧SlAt w' da dc (r.s.u.take (Pl.rdN r n))∧SgOwn w' (w.heap.size+3) (readS r n) ks∧Below w.heap.size w w':=by
 cases hq:Pl.rdB r n with
 | false=>exact hq▸zf2 r h n w H hok hq
 | true=>exact hq▸zgz r h n w H hok hq
end Go.Proofs.Ytkigcdmlkmcdcaa
