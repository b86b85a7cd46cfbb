/- GM: Read Filled. -/
import Derived.Test.YtkigcdmlkmcdcaaQZ
import Derived.Test.YtkigcdmlkmcdcaaQGL
import Derived.Test.YtkigcdmlkmcdcaaQGF
import Derived.Test.YtkigcdmlkmcdcaaQGA
import Derived.Test.YtkigcdmlkmcdcaaQGI
/- The contract of Read. -/
namespace Go.Proofs.Ytkigcdmlkmcdcaa
open Go.ChangeShapes Go.WideShapes Go.ChangeAt Go.RowKit
set_option linter.unusedVariables false
set_option linter.unusedSimpArgs false
def readS (r:Pl.Rv) (n:Int):Seg:=if Pl.rdB r n=true then tellS (Pl.cutR r n) r.first else zeroS
theorem rd_int (r:Pl.Rv) (n:Int):Pl.minJ (Pl.maxJ n 0) (r.s.u.length:Int)=(Pl.rdN r n:Int):=by
 unfold Pl.rdN
 have h1:=Pl.min_le (Pl.maxJ n 0) (r.s.u.length:Int)
 have h2:=Pl.max_ge n 0
 omega
theorem RvAt.cut {w:World} {r:Pl.Rv} {h:Hd} (H:RvAt w r h) (n:Int):RvAt w (Pl.cutR r n) { h with ua:=cutB h.ua h.uc (Pl.rdN r n),uc:=h.uc-Pl.rdN r n} :=
 { un:=H.un.drop _,late:=H.late,les:=H.les,fst:=H.fst,n:=H.n,cap:=H.cap,shift:=H.shift,edge:=H.edge,recent:=H.recent,fin:=H.fin,irs:=H.irs,own:=H.own}
theorem ze3 {c:Code} {P:Program} {Q:Exit→Act→World→Prop} {a:Act} {V V':World} (h:V=V') (g:c.wp P Q a V'):c.wp P Q a V:=h▸g
theorem zaw {B:Nat} {e:TypeId} {s n:Nat} {v:Value} {xs:List Value} {g:Nat} {t':TypeId} (ht:t'≠e):∀ (vs:List Value) (w:World) (cs:List Value) (i:Nat),w.ownsRow B e s v n xs→Box w g t' cs→(setAll w g i vs).ownsRow B e s v n xs
 | [],_,_,_,h,_=>h
 | u::vs,_,_,i,h,hg=>zaw ht vs _ _ (i+1) (zan h hg ht i u) (hg.set i u)
theorem RvOwn.besideS {w:World} {B:Nat} {r:Pl.Rv} {h:Hd} (H:RvOwn w B r h) {g:Nat} {cs:List Value} (hg:Box w g 34 cs) (i:Nat) (vs:List Value):RvOwn (setAll w g i vs) B r h :=
 { H with row:=zaw (by decide) _ _ _ _ H.row hg,fam:=⟨fun x hx=>{ H.fam.mine x hx with row:=zaw (by decide) _ _ _ _ (H.fam.mine x hx).row hg},H.fam.part⟩,fst:=zaw (by decide) _ _ _ _ H.fst hg}
theorem SgOwn.besideS {w:World} {B:Nat} {s:Seg} {k:Hs} (h:SgOwn w B s k) {g:Nat} {cs:List Value} (hg:Box w g 34 cs) (i:Nat) (vs:List Value):SgOwn (setAll w g i vs) B s k:={ h with row:=zaw (by decide) _ _ _ _ h.row hg}
set_option maxRecDepth 100000 in
set_option maxHeartbeats 16000000 in
theorem zf2 (r:Pl.Rv) (h:Hd) (n:Int) (w:World) (H:RvAt w r h) (hok:r.Ok) (HQ:Hid (Pl.rdB r n=false)) :
 Calls Try.prog 12 #[.agg #[.int .i64 r.s.n,.slice h.ua r.s.u.length h.uc,.slice h.la h.es.length h.lc,.int .i64 r.cap,.int .i64 r.shift,.int .i64 r.edge,.int .u32 r.recent,.bool r.stamps,.bool r.sacks,.int .i64 r.fin,.bool r.dn,.slice h.fa r.first.length h.fc,.int .u32 r.irs,.int .u32 r.own,.bool r.stamp],.int .i64 n] w fun e w'=>∃ (k:Hd) (da:Option Addr) (dc:Nat) (ks:Hs),e=.returned (.tuple #[.agg #[.int .i64 (Pl.readR r n).s.n,.slice k.ua (Pl.readR r n).s.u.length k.uc,.slice k.la k.es.length k.lc,.int .i64 (Pl.readR r n).cap,.int .i64 (Pl.readR r n).shift,.int .i64 (Pl.readR r n).edge,.int .u32 (Pl.readR r n).recent,.bool (Pl.readR r n).stamps,.bool (Pl.readR r n).sacks,.int .i64 (Pl.readR r n).fin,.bool (Pl.readR r n).dn,.slice k.fa (Pl.readR r n).first.length k.fc,.int .u32 (Pl.readR r n).irs,.int .u32 (Pl.readR r n).own,.bool (Pl.readR r n).stamp],.slice da (Pl.rdN r n) dc,.agg #[.int .i64 (readS r n).sp,.int .i64 (readS r n).dp,.int .u32 (readS r n).sq,.int .u32 (readS r n).ak,.int .i64 (readS r n).fl,.int .i64 (readS r n).wn,.int .i64 (readS r n).ur,.int .i64 (readS r n).ms,.int .i64 (readS r n).sc,.bool (readS r n).so,.bool (readS r n).st,.int .u32 (readS r n).va,.int .u32 (readS r n).ec,.slice ks.ka (readS r n).sk.length ks.kc,.slice ks.da (readS r n).da.length ks.dc],.bool (Pl.rdB r n),.int .i64 0])∧RvOwn w' (w.heap.size+3) (Pl.readR r n) k∧SlAt w' da dc (r.s.u.take (Pl.rdN r n))∧SgOwn w' (w.heap.size+3) (readS r n) ks∧Below w.heap.size w w':=by
 obtain ⟨W0,hW0⟩:∃ W0,((w.alloc (.cells #[.int .i64 r.s.n,.slice h.ua r.s.u.length h.uc,.slice h.la h.es.length h.lc,.int .i64 r.cap,.int .i64 r.shift,.int .i64 r.edge,.int .u32 r.recent,.bool r.stamps,.bool r.sacks,.int .i64 r.fin,.bool r.dn,.slice h.fa r.first.length h.fc,.int .u32 r.irs,.int .u32 r.own,.bool r.stamp] 27)).alloc (.cells zR.toArray 27)).alloc (.cells zS.toArray 34)=W0:=⟨_,rfl⟩
 obtain ⟨hX,hZ,hZS,hs0,b0⟩:Box W0 w.heap.size 27 (rvL r h)∧Box W0 (w.heap.size+1) 27 zR∧Box W0 (w.heap.size+2) 34 zS∧W0.heap.size=w.heap.size+3∧Below w.heap.size w W0:=by rw [← hW0];exact boxes3 w (rvL r h)
 have HH:Hid (RvAt w r h∧r.Ok):=⟨H,hok⟩
 have cC:=zbk r h W0 (H.later b0) hok
 have hNle:=Pl.cut_len r n
 have hcap:r.s.u.length≤h.uc:=H.un.2.2
 have hur:=H.un.1.1
 have cK:∀ W,Calls Try.prog 30 #[.int .i64 n,.int .i64 0,.int .i64 (r.s.u.length:Int)] W fun e w'=>e=.returned (.int .i64 (Pl.rdN r n:Int))∧w'=W:=fun W=>by
  have:=zgl n (r.s.u.length:Int) (by omega) W
  rw [rd_int] at this
  exact this
 obtain ⟨N,hN⟩:∃ N,Pl.rdN r n=N:=⟨_,rfl⟩
 have HN:Hid (Pl.rdN r n=N):=hN
 have hR:=H.cut n
 have hRok:=(Pl.cut_ok (n:=n) hok).1
 obtain ⟨r2,hr2⟩:∃ r2,Pl.cutR r n=r2:=⟨_,rfl⟩
 obtain ⟨U,hU⟩:∃ U,r.s.u.length=U:=⟨_,rfl⟩
 have HR:Hid (Pl.cutR r n=r2∧r.s.u.length=U∧r2.Ok):=⟨hr2,hU,hr2▸hRok⟩
 rw [hN] at hNle cK
 rw [hU] at hNle hcap hur cK
 have s1:=fun W=>sl_h h.ua U h.uc N (N:Int) rfl (by omega) W
 have s2:=fun W=>sl_l h.ua U h.uc N (N:Int) rfl (by omega) W
 unfold rvL at hX
 rw [hU] at cC hX hW0 ⊢
 have HX:Hid (_∧_∧_∧_∧_):=⟨hX,hZ,hZS,hs0,b0⟩
 obtain ⟨c0,c1,c2,c3,c4,c5,c6,c7,c8,c9,c10,c11,c12,c13,c14⟩:=Box.c15 hX
 clear hX hZ hZS hs0 b0 H hok hN hR hRok hr2 hU
 go_enter Try.func12,Try.ntmps12
 go_wp2_with fail
 refine cC.mono ?_
 rintro e w1 ⟨rfl,hB1⟩
 have HB1:Hid (Below W0.heap.size W0 w1):=hB1
 clear c0 c1 c2 c3 c4 c5 c6 c7 c8 c9 c10 c11 c12 c13 c14 cC hW0
 obtain ⟨c0,c1,c2,c3,c4,c5,c6,c7,c8,c9,c10,c11,c12,c13,c14⟩:=Box.c15 (HX.out.1.later hB1)
 clear hB1
 go_wp2_with (go_at_call 30;refine (cK _).mono ?_;rintro e w' ⟨rfl,hw'⟩;obtain rfl:=hw'.symm)
 have cB:=zcl h.ua h.uc (r.s.u.take N) w1 ((HH.out.1.un.later (Below.on HX.out.2.2.2.2 HB1.out)).take N)
 rw [show (r.s.u.take N).length=N by rw [List.length_take,HR.out.2.1];omega] at cB
 refine cB.mono ?_
 rintro e w2 ⟨da,dc,rfl,hD2,hB2⟩
 have HD:Hid (Row w2 w1.heap.size da N dc (r.s.u.take N)∧Below w1.heap.size w1 w2):=⟨hD2,hB2⟩
 have hx2:=(HX.out.1.later HB1.out).later hB2
 have hf1:=hx2.frozen 1
 obtain ⟨V,hV⟩:∃ V,w2.setCell ⟨w.heap.size,1,none⟩ (.slice (cutB h.ua h.uc N) (U-N) (h.uc-N))=V:=⟨_,rfl⟩
 have hr1:=HR.out.1
 have hlen:r2.s.u.length=U-N:=by rw [← hr1];show (r.s.u.drop (Pl.rdN r n)).length=U-N;rw [List.length_drop,HN.out,HR.out.2.1]
 obtain ⟨h2,hh2⟩:∃ h2:Hd,({ h with ua:=cutB h.ua h.uc N,uc:=h.uc-N}:Hd)=h2:=⟨_,rfl⟩
 have hxV:Box V w.heap.size 27 (rvL r2 h2):=by
  unfold rvL
  rw [← hV,← hh2,hlen,← hr1]
  exact hx2.set 1 _
 have hszV:V.heap.size=w2.heap.size:=by rw [← hV];simp [World.setCell]
 have hsz1:=HB1.out.size
 have hsz2:=hB2.size
 have hsz0:=HX.out.2.2.2.1
 have hzV:Box V (w.heap.size+1) 27 zR:=by rw [← hV];exact ((HX.out.2.1.later HB1.out).later hB2).aside _ _ _ (by omega)
 have hzsV:Box V (w.heap.size+2) 34 zS:=by rw [← hV];exact ((HX.out.2.2.1.later HB1.out).later hB2).aside _ _ _ (by omega)
 have hbV:Below w.heap.size w V:=by rw [← hV];exact zar (Below.on HX.out.2.2.2.2 (Below.on HB1.out hB2)) _ _ _ (Nat.le_refl _)
 have hdV:Row V (w.heap.size+3) da N dc (r.s.u.take N):=by rw [← hV];exact zas (hD2.mono (by omega)) _ _ _ (by omega)
 have hrV:RvAt V r2 h2:=by
  have:=(HH.out.1.later hbV).cut n
  rw [HN.out,hr1,hh2] at this
  exact this
 have cR:=zcr r2 h2 V hrV
 have HV:Hid (Box V w.heap.size 27 (rvL r2 h2)∧Box V (w.heap.size+1) 27 zR∧Box V (w.heap.size+2) 34 zS∧Below w.heap.size w V∧Row V (w.heap.size+3) da N dc (r.s.u.take N)∧w.heap.size+3≤V.heap.size):=⟨hxV,hzV,hzsV,hbV,hdV,by omega⟩
 have HV0:Hid (w2.setCell ⟨w.heap.size,1,none⟩ (.slice (cutB h.ua h.uc N) (U-N) (h.uc-N))=V):=hV
 clear c0 c1 c2 c3 c4 c5 c6 c7 c8 c9 c10 c11 c12 c13 c14 cB cK hD2 hB2 hV hr1 hlen hh2 hxV hszV hsz1 hsz2 hsz0 hzV hzsV hbV hdV
 obtain ⟨c0,c1,c2,c3,c4,c5,c6,c7,c8,c9,c10,c11,c12,c13,c14⟩:=Box.c15 hx2
 clear hx2
 go_upto_region 7 with fail
 rw [HV0.out]
 clear c0 c1 c2 c3 c4 c5 c6 c7 c8 c9 c10 c11 c12 c13 c14 hf1 HV0 s1 s2
 obtain ⟨c0,c1,c2,c3,c4,c5,c6,c7,c8,c9,c10,c11,c12,c13,c14⟩:=Box.c15 HV.out.1
 go_wp2_with fail
 refine cR.mono ?_
 rintro e w3 ⟨k,rfl,hO3,hB3⟩
 have hx3:=HV.out.1.later hB3
 obtain ⟨X,hX⟩:∃ X,setAll w3 w.heap.size 0 (rvL r2 k)=X:=⟨_,rfl⟩
 have hXc:(((((((((((((((w3.setCell ⟨w.heap.size,0,none⟩ (.int .i64 r2.s.n)).setCell ⟨w.heap.size,1,none⟩ (.slice k.ua r2.s.u.length k.uc)).setCell ⟨w.heap.size,2,none⟩ (.slice k.la k.es.length k.lc)).setCell ⟨w.heap.size,3,none⟩ (.int .i64 r2.cap)).setCell ⟨w.heap.size,4,none⟩ (.int .i64 r2.shift)).setCell ⟨w.heap.size,5,none⟩ (.int .i64 r2.edge)).setCell ⟨w.heap.size,6,none⟩ (.int .u32 r2.recent)).setCell ⟨w.heap.size,7,none⟩ (.bool r2.stamps)).setCell ⟨w.heap.size,8,none⟩ (.bool r2.sacks)).setCell ⟨w.heap.size,9,none⟩ (.int .i64 r2.fin)).setCell ⟨w.heap.size,10,none⟩ (.bool r2.dn)).setCell ⟨w.heap.size,11,none⟩ (.slice k.fa r2.first.length k.fc)).setCell ⟨w.heap.size,12,none⟩ (.int .u32 r2.irs)).setCell ⟨w.heap.size,13,none⟩ (.int .u32 r2.own)).setCell ⟨w.heap.size,14,none⟩ (.bool r2.stamp))=X:=hX
 have bX:Box X w.heap.size 27 (rvL r2 k):=by rw [← hX];exact hx3.put (rvL r2 k) rfl
 have bZ:Box X (w.heap.size+1) 27 zR:=by rw [← hX];exact (HV.out.2.1.later hB3).putAside _ _ _ (by omega)
 have bS:Box X (w.heap.size+2) 34 zS:=by rw [← hX];exact (HV.out.2.2.1.later hB3).putAside _ _ _ (by omega)
 have oX:RvOwn X (w.heap.size+3) r2 k:=by rw [← hX];exact (hO3.mono HV.out.2.2.2.2.2).aside _ _ _ (by omega)
 have lX:Below w.heap.size w X:=by rw [← hX];exact zaf (Nat.le_refl _) (Below.on HV.out.2.2.2.1 hB3)
 have dX:Row X (w.heap.size+3) da N dc (r.s.u.take N):=by rw [← hX];exact zam (HV.out.2.2.2.2.1.later hB3) _ _ _ (by omega)
 have sX:w.heap.size+3≤X.heap.size:=by
  have h1:=HV.out.2.2.2.2.2
  have h2:=hB3.size
  have h3:=(zaf (w:=w3) (a:=w3) (B:=0) (g:=w.heap.size) (i:=0) (vs:=rvL r2 k) (Nat.zero_le _) (Below.refl _ _)).size
  rw [hX] at h3
  omega
 have HXX:Hid (Box X w.heap.size 27 (rvL r2 k)∧Box X (w.heap.size+1) 27 zR∧Box X (w.heap.size+2) 34 zS∧RvOwn X (w.heap.size+3) r2 k∧Below w.heap.size w X∧Row X (w.heap.size+3) da N dc (r.s.u.take N)∧w.heap.size+3≤X.heap.size):=⟨bX,bZ,bS,oX,lX,dX,sX⟩
 have HXc:Hid ((((((((((((((((w3.setCell ⟨w.heap.size,0,none⟩ (.int .i64 r2.s.n)).setCell ⟨w.heap.size,1,none⟩ (.slice k.ua r2.s.u.length k.uc)).setCell ⟨w.heap.size,2,none⟩ (.slice k.la k.es.length k.lc)).setCell ⟨w.heap.size,3,none⟩ (.int .i64 r2.cap)).setCell ⟨w.heap.size,4,none⟩ (.int .i64 r2.shift)).setCell ⟨w.heap.size,5,none⟩ (.int .i64 r2.edge)).setCell ⟨w.heap.size,6,none⟩ (.int .u32 r2.recent)).setCell ⟨w.heap.size,7,none⟩ (.bool r2.stamps)).setCell ⟨w.heap.size,8,none⟩ (.bool r2.sacks)).setCell ⟨w.heap.size,9,none⟩ (.int .i64 r2.fin)).setCell ⟨w.heap.size,10,none⟩ (.bool r2.dn)).setCell ⟨w.heap.size,11,none⟩ (.slice k.fa r2.first.length k.fc)).setCell ⟨w.heap.size,12,none⟩ (.int .u32 r2.irs)).setCell ⟨w.heap.size,13,none⟩ (.int .u32 r2.own)).setCell ⟨w.heap.size,14,none⟩ (.bool r2.stamp))=X):=hXc
 clear c0 c1 c2 c3 c4 c5 c6 c7 c8 c9 c10 c11 c12 c13 c14 cR hO3 hB3 hX hXc bX bZ bS oX lX dX sX HV HD hrV HB1 HX
 obtain ⟨c0,c1,c2,c3,c4,c5,c6,c7,c8,c9,c10,c11,c12,c13,c14⟩:=Box.c15 hx3
 obtain ⟨f0,f1,f2,f3,f4,f5,f6,f7,f8,f9,f10,f11,f12,f13,f14⟩:=Box.f15 hx3
 clear hx3
 go_upto_region 8 with fail
 rw [HXc.out]
 clear c0 c1 c2 c3 c4 c5 c6 c7 c8 c9 c10 c11 c12 c13 c14 f0 f1 f2 f3 f4 f5 f6 f7 f8 f9 f10 f11 f12 f13 f14 HXc
 have hr2ok:=HR.out.2.2
 have cW:=fun W=>zcb r2 k W (zge hr2ok)
 have hwb:=Pl.window_bd hr2ok.uc
 have hnb:=hr2ok.nf
 have hn0:=hr2ok.n0
 have hc1:=hr2ok.c1
 have hcm:=hr2ok.cm
 have he0:=hr2ok.e0
 have her:=hr2ok.er
 have hun:=hr2ok.un
 unfold Pl.farI at hnb
 unfold Pl.Rv.reach Pl.Rx.bot at her
 obtain ⟨wd,hwd⟩:∃ wd,r2.window=wd:=⟨_,rfl⟩
 simp only [hwd] at cW hwb
 obtain ⟨c2,hc2⟩:∃ c2,r2.cap / 2=c2:=⟨_,rfl⟩
 obtain ⟨mx,hmx⟩:∃ mx,(if c2<1 then 1 else c2)=mx:=⟨_,rfl⟩
 have hrd:Pl.rdB r n=decide (mx≤r2.s.n+wd-r2.edge):=by
  rw [← hwd,← hmx,← hc2,← HR.out.1];rfl
 have HRD:Hid (Pl.rdB r n=decide (mx≤r2.s.n+wd-r2.edge)∧r2.window=wd):=⟨hrd,hwd⟩
 have hwr1:IntKind.i64.wrap (r2.s.n+wd)=r2.s.n+wd:=by rw [IntKind.wrap_i64];omega
 have hwr2:IntKind.i64.wrap (r2.s.n+wd-r2.edge)=r2.s.n+wd-r2.edge:=by rw [IntKind.wrap_i64];omega
 have hq:Int.tdiv r2.cap 2=c2:=by rw [← hc2];exact Int.tdiv_eq_ediv_of_nonneg (by omega)
 have hwr3:IntKind.i64.wrap c2=c2:=by rw [IntKind.wrap_i64];omega
 clear hc2 hr2ok hwd hrd her hun
 obtain ⟨S,hS⟩:∃ S:World→Prop,S=fun W=>W.cell? ⟨w.heap.size,0,none⟩=some (.int .i64 r2.s.n)∧W.cell? ⟨w.heap.size,1,none⟩=some (.slice k.ua r2.s.u.length k.uc)∧W.cell? ⟨w.heap.size,2,none⟩=some (.slice k.la k.es.length k.lc)∧W.cell? ⟨w.heap.size,3,none⟩=some (.int .i64 r2.cap)∧W.cell? ⟨w.heap.size,4,none⟩=some (.int .i64 r2.shift)∧W.cell? ⟨w.heap.size,5,none⟩=some (.int .i64 r2.edge)∧W.cell? ⟨w.heap.size,6,none⟩=some (.int .u32 r2.recent)∧W.cell? ⟨w.heap.size,7,none⟩=some (.bool r2.stamps)∧W.cell? ⟨w.heap.size,8,none⟩=some (.bool r2.sacks)∧W.cell? ⟨w.heap.size,9,none⟩=some (.int .i64 r2.fin)∧W.cell? ⟨w.heap.size,10,none⟩=some (.bool r2.dn)∧W.cell? ⟨w.heap.size,11,none⟩=some (.slice k.fa r2.first.length k.fc)∧W.cell? ⟨w.heap.size,12,none⟩=some (.int .u32 r2.irs)∧W.cell? ⟨w.heap.size,13,none⟩=some (.int .u32 r2.own)∧W.cell? ⟨w.heap.size,14,none⟩=some (.bool r2.stamp):=⟨_,rfl⟩
 have HSK:Hid (∀ W,Below X.heap.size X W→S W):=fun W hW=>by
  rw [hS]
  exact Box.c15 (HXX.out.1.later hW)
 obtain ⟨y0,y1,y2,y4,y5,y6,y7,y8,y9,y10,y11,y12⟩:(∀ {ps} (ev:EV),ev (.tmp 2)=.pointer (some ⟨w.heap.size,0,none⟩)→Yl Try.prog S ev ⟨some 36,.fieldAddr 27 (.tmp 2) 0,0,ps,#[],none⟩ ((.pointer (some ⟨w.heap.size,0,none⟩))))∧(∀ {ps} (ev:EV),ev (.tmp 36)=.pointer (some ⟨w.heap.size,0,none⟩)→Yl Try.prog S ev ⟨some 37,.load 3 (.tmp 36),3,ps,#[⟨0,.data⟩],none⟩ ((.int .i64 r2.s.n)))∧(∀ {ps} (ev:EV),ev (.tmp 2)=.pointer (some ⟨w.heap.size,0,none⟩)→Yl Try.prog S ev ⟨some 38,.load 27 (.tmp 2),27,ps,#[],none⟩ ((.agg #[.int .i64 r2.s.n,.slice k.ua r2.s.u.length k.uc,.slice k.la k.es.length k.lc,.int .i64 r2.cap,.int .i64 r2.shift,.int .i64 r2.edge,.int .u32 r2.recent,.bool r2.stamps,.bool r2.sacks,.int .i64 r2.fin,.bool r2.dn,.slice k.fa r2.first.length k.fc,.int .u32 r2.irs,.int .u32 r2.own,.bool r2.stamp])))∧(∀ {ps} (ev:EV),ev (.tmp 37)=.int .i64 r2.s.n→ev (.tmp 39)=.int .i64 wd→Yl Try.prog S ev ⟨some 40,.binOp .add 3 (.tmp 37) (.tmp 39) 3,3,ps,#[⟨1,.data⟩,⟨3,.data⟩],none⟩ ((.int .i64 (r2.s.n+wd))))∧(∀ {ps} (ev:EV),ev (.tmp 2)=.pointer (some ⟨w.heap.size,0,none⟩)→Yl Try.prog S ev ⟨some 41,.fieldAddr 27 (.tmp 2) 5,0,ps,#[],none⟩ ((.pointer (some ⟨w.heap.size,5,none⟩))))∧(∀ {ps} (ev:EV),ev (.tmp 41)=.pointer (some ⟨w.heap.size,5,none⟩)→Yl Try.prog S ev ⟨some 42,.load 3 (.tmp 41),3,ps,#[⟨5,.data⟩],none⟩ ((.int .i64 r2.edge)))∧(∀ {ps} (ev:EV),ev (.tmp 40)=.int .i64 (r2.s.n+wd)→ev (.tmp 42)=.int .i64 r2.edge→Yl Try.prog S ev ⟨some 43,.binOp .sub 3 (.tmp 40) (.tmp 42) 3,3,ps,#[⟨4,.data⟩,⟨6,.data⟩],none⟩ ((.int .i64 (r2.s.n+wd-r2.edge))))∧(∀ {ps} (ev:EV),ev (.tmp 2)=.pointer (some ⟨w.heap.size,0,none⟩)→Yl Try.prog S ev ⟨some 44,.fieldAddr 27 (.tmp 2) 3,0,ps,#[],none⟩ ((.pointer (some ⟨w.heap.size,3,none⟩))))∧(∀ {ps} (ev:EV),ev (.tmp 44)=.pointer (some ⟨w.heap.size,3,none⟩)→Yl Try.prog S ev ⟨some 45,.load 3 (.tmp 44),3,ps,#[⟨8,.data⟩],none⟩ ((.int .i64 r2.cap)))∧(∀ {ps} (ev:EV),ev (.tmp 45)=.int .i64 r2.cap→ev (.const (.int .i64 2))=.int .i64 2→Yl Try.prog S ev ⟨some 46,.binOp .quo 3 (.tmp 45) (.const (.int .i64 2)) 3,3,ps,#[⟨9,.data⟩],none⟩ ((.int .i64 c2)))∧(∀ {ps} (ev:EV),ev (.tmp 46)=.int .i64 c2→ev (.const (.int .i64 1))=.int .i64 1→Yl Try.prog S ev ⟨some 47,.call { callee:=.builtin .max,args:=#[.tmp 46,.const (.int .i64 1)],argTypes:=#[3,3]},3,ps,#[⟨10,.data⟩],none⟩ ((.int .i64 mx)))∧(∀ {ps} (ev:EV),ev (.tmp 43)=.int .i64 (r2.s.n+wd-r2.edge)→ev (.tmp 47)=.int .i64 mx→Yl Try.prog S ev ⟨some 48,.binOp .lss 3 (.tmp 43) (.tmp 47) 3,4,ps,#[⟨7,.data⟩,⟨11,.data⟩],none⟩ ((.bool (decide (r2.s.n+wd-r2.edge<mx))))):=by
  refine ⟨?_,?_,?_,?_,?_,?_,?_,?_,?_,?_,?_,?_⟩<;>(intros;intro W hSw;rw [hS] at hSw;(try dsimp only at hSw);go_simp<;>with_reducible rfl)
 refine zbh (fun W=>S W∧Below X.heap.size X W) (by kernel_rfl) (by kernel_rfl) ?hC ?_
 case hC=>exact ⟨HSK.out _ (by repeat (first|with_reducible exact Below.refl _ _|with_reducible assumption|with_reducible refine Below.drew ?_|with_reducible refine zad ?_ _|with_reducible refine zaa ?_ _)),by repeat (first|with_reducible exact Below.refl _ _|with_reducible assumption|with_reducible refine Below.drew ?_|with_reducible refine zad ?_ _|with_reducible refine zaa ?_ _)⟩
 refine zag (by rfl) (zai (fun W hW=>y0 _ rfl W hW.1) ?_)
 try simp only [Act.put,qA,qZ,qS]
 refine zag (by rfl) (zai (fun W hW=>y1 _ rfl W hW.1) ?_)
 try simp only [Act.put,qA,qZ,qS]
 refine zag (by rfl) (zai (fun W hW=>y2 _ rfl W hW.1) ?_)
 try simp only [Act.put,qA,qZ,qS]
 refine zag (by rfl) (zcd (v:=.int .i64 wd) (f:=29) (args:=#[.agg #[.int .i64 r2.s.n,.slice k.ua r2.s.u.length k.uc,.slice k.la k.es.length k.lc,.int .i64 r2.cap,.int .i64 r2.shift,.int .i64 r2.edge,.int .u32 r2.recent,.bool r2.stamps,.bool r2.sacks,.int .i64 r2.fin,.bool r2.dn,.slice k.fa r2.first.length k.fc,.int .u32 r2.irs,.int .u32 r2.own,.bool r2.stamp]]) ?hy3 ?hc3 ?rest3)
 case hy3=>(intro w hSw;(try dsimp only at hSw);first|(go_simp;done)|(go_simp;with_reducible rfl))
 case hc3=>(intro w hSw;refine (cW w).mono ?_;rintro e w1 ⟨rfl,hB⟩;exact ⟨rfl,HSK.out _ (Below.on hSw.2 hB),Below.on hSw.2 hB⟩)
 try simp only [Act.put,qA,qZ,qS]
 refine zag (by rfl) (zai (fun W hW=>y4 _ rfl rfl W hW.1) ?_)
 try simp only [Act.put,qA,qZ,qS]
 refine zag (by rfl) (zai (fun W hW=>y5 _ rfl W hW.1) ?_)
 try simp only [Act.put,qA,qZ,qS]
 refine zag (by rfl) (zai (fun W hW=>y6 _ rfl W hW.1) ?_)
 try simp only [Act.put,qA,qZ,qS]
 refine zag (by rfl) (zai (fun W hW=>y7 _ rfl rfl W hW.1) ?_)
 try simp only [Act.put,qA,qZ,qS]
 refine zag (by rfl) (zai (fun W hW=>y8 _ rfl W hW.1) ?_)
 try simp only [Act.put,qA,qZ,qS]
 refine zag (by rfl) (zai (fun W hW=>y9 _ rfl W hW.1) ?_)
 try simp only [Act.put,qA,qZ,qS]
 refine zag (by rfl) (zai (fun W hW=>y10 _ rfl rfl W hW.1) ?_)
 try simp only [Act.put,qA,qZ,qS]
 refine zag (by rfl) (zai (fun W hW=>y11 _ rfl rfl W hW.1) ?_)
 try simp only [Act.put,qA,qZ,qS]
 refine zag (by rfl) (zai (fun W hW=>y12 _ rfl rfl W hW.1) ?_)
 try simp only [Act.put,qA,qZ,qS]
 refine wpQuiet_nil ?_
 intro W8 hC8
 have HC8:Hid (Below X.heap.size X W8):=hC8.2
 clear hC8 y0 y1 y2 y4 y5 y6 y7 y8 y9 y10 y11 y12 hS HSK hwr1 hwr2 hwr3 hq hmx hwb hnb hn0 hc1 hcm he0 cW
 by_cases g:r2.s.n+wd-r2.edge<mx
 · have hrd:Pl.rdB r n=false:=by rw [HRD.out.1];simp;omega
   have HE:Hid (Pl.rdB r n=false∧Pl.readR r n=r2∧readS r n=zeroS):=⟨hrd,by unfold Pl.readR;rw [hrd];simp [HR.out.1],by unfold readS;rw [hrd];simp⟩
   clear hrd HRD
   have hx8:=HXX.out.1.later HC8.out
   have hz1:=HXX.out.2.1.later HC8.out
   have hz2:=HXX.out.2.2.1.later HC8.out
   obtain ⟨Y,hY⟩:∃ Y,setAll (setAll W8 (w.heap.size+1) 0 [.int .i64 r2.s.n,.slice k.ua r2.s.u.length k.uc,.slice k.la k.es.length k.lc,.int .i64 r2.cap,.int .i64 r2.shift,.int .i64 r2.edge,.int .u32 r2.recent,.bool r2.stamps,.bool r2.sacks,.int .i64 r2.fin,.bool r2.dn,.slice k.fa r2.first.length k.fc,.int .u32 r2.irs,.int .u32 r2.own,.bool r2.stamp]) (w.heap.size+2) 0 zS=Y:=⟨_,rfl⟩
   have HF:Hid (Box Y (w.heap.size+1) 27 (rvL r2 k)∧Box Y (w.heap.size+2) 34 zS∧RvOwn Y (w.heap.size+3) r2 k∧Row Y (w.heap.size+3) da N dc (r.s.u.take N)∧Below w.heap.size w Y):=by
    rw [← hY]
    exact ⟨(hz1.put [.int .i64 r2.s.n,.slice k.ua r2.s.u.length k.uc,.slice k.la k.es.length k.lc,.int .i64 r2.cap,.int .i64 r2.shift,.int .i64 r2.edge,.int .u32 r2.recent,.bool r2.stamps,.bool r2.sacks,.int .i64 r2.fin,.bool r2.dn,.slice k.fa r2.first.length k.fc,.int .u32 r2.irs,.int .u32 r2.own,.bool r2.stamp] rfl).putAside _ _ _ (by omega),(hz2.putAside _ _ _ (by omega)).put _ rfl,((HXX.out.2.2.2.1.later HC8.out).aside _ _ _ (by omega)).aside _ _ _ (by omega),zam (zam (HXX.out.2.2.2.2.2.1.later HC8.out) _ _ _ (by omega)) _ _ _ (by omega),zaf (by omega) (zaf (by omega) (Below.on HXX.out.2.2.2.2.1 HC8.out))⟩
   have HY:Hid (setAll (setAll W8 (w.heap.size+1) 0 [.int .i64 r2.s.n,.slice k.ua r2.s.u.length k.uc,.slice k.la k.es.length k.lc,.int .i64 r2.cap,.int .i64 r2.shift,.int .i64 r2.edge,.int .u32 r2.recent,.bool r2.stamps,.bool r2.sacks,.int .i64 r2.fin,.bool r2.dn,.slice k.fa r2.first.length k.fc,.int .u32 r2.irs,.int .u32 r2.own,.bool r2.stamp]) (w.heap.size+2) 0 zS=Y):=hY
   clear hY
   obtain ⟨c0,c1,c2,c3,c4,c5,c6,c7,c8,c9,c10,c11,c12,c13,c14⟩:=Box.c15 hx8
   obtain ⟨q0,q1,q2,q3,q4,q5,q6,q7,q8,q9,q10,q11,q12,q13,q14⟩:=Box.c15 hz1
   obtain ⟨f0,f1,f2,f3,f4,f5,f6,f7,f8,f9,f10,f11,f12,f13,f14⟩:=Box.f15 hz1
   obtain ⟨d0,d1,d2,d3,d4,d5,d6,d7,d8,d9,d10,d11,d12,d13,d14⟩:=Box.c15 hz2
   obtain ⟨e0,e1,e2,e3,e4,e5,e6,e7,e8,e9,e10,e11,e12,e13,e14⟩:=Box.f15 hz2
   clear hx8 hz1 hz2
   go_wp2_with fail
   have hb1:=HF.out.1
   have hb2:=HF.out.2.1
   rw [← HY.out] at hb1 hb2
   refine bodyPost_ret (res_rtstt rfl _ _ (w.heap.size+1) (w.heap.size+2) [.int .i64 r2.s.n,.slice k.ua r2.s.u.length k.uc,.slice k.la k.es.length k.lc,.int .i64 r2.cap,.int .i64 r2.shift,.int .i64 r2.edge,.int .u32 r2.recent,.bool r2.stamps,.bool r2.sacks,.int .i64 r2.fin,.bool r2.dn,.slice k.fa r2.first.length k.fc,.int .u32 r2.irs,.int .u32 r2.own,.bool r2.stamp] zS rfl rfl rfl rfl hb1 hb2) rfl ?_
   have h0:=HF.out
   rw [← HY.out] at h0
   rw [HE.out.1,HE.out.2.1,HE.out.2.2,HN.out]
   exact ⟨k,da,dc,⟨none,0,none,0⟩,rfl,h0.2.2.1,h0.2.2.2.1.sl (fun x hx=>(HH.out.1.un.1.2.1 x (List.mem_of_mem_take hx))) (by rw [List.length_take,HR.out.2.1];omega),⟨RowB.nil _ _,by simp [zeroS],rfl,rfl,rfl⟩,h0.2.2.2.2⟩
 · exact absurd (HQ.out.symm.trans (show Pl.rdB r n=true by rw [HRD.out.1];simp;omega)) (by simp)
def fillR (r:Pl.Rv) (fr:List Pl.Pc):Pl.Rv:={ r with s:=Pl.mrgGo (Pl.bothN (r.s.l.length+fr.length) r.s.l fr) ⟨r.s.n,r.s.u,[]⟩}
theorem tot_perm {a b:List En} (h:a.Perm b):tot a=tot b:=(h.map _).sum_nat
theorem RvOwn.besideR {w:World} {B:Nat} {r:Pl.Rv} {h:Hd} (H:RvOwn w B r h) {g:Nat} {cs:List Value} (hg:Box w g 27 cs) (i:Nat) (vs:List Value):RvOwn (setAll w g i vs) B r h :=
 { H with row:=zaw (by decide) _ _ _ _ H.row hg,fam:=⟨fun x hx=>{ H.fam.mine x hx with row:=zaw (by decide) _ _ _ _ (H.fam.mine x hx).row hg},H.fam.part⟩,fst:=zaw (by decide) _ _ _ _ H.fst hg}
theorem zca {S:Nat→Prop} {g:Nat} (hg:S g):∀ (vs:List Value) (i:Nat) (w:World),Chg S w (setAll w g i vs)
 | [],_,w=>Chg.of_below (Below.refl _ _)
 | v::vs,i,w=>(Chg.set w g i v hg).trans (zca hg vs (i+1) _)
set_option maxRecDepth 100000 in
set_option maxHeartbeats 4000000 in
theorem both_any (A:Option Addr) (n c:Nat) (D:Option Addr) (m d:Nat) (w:World) :
 Calls Try.prog 80 #[.slice A n c,.slice D m d] w fun e w'=>e=.returned (.func (.func 87) #[] #[.pointer (some ⟨w.heap.size,0,none⟩),.pointer (some ⟨w.heap.size+1,0,none⟩)])∧w'=(w.alloc (.cells #[.slice A n c] 23)).alloc (.cells #[.slice D m d] 23):=by
 go_enter Try.func80,Try.ntmps80
 go_wp2
 go_ret
 exact ⟨rfl,rfl⟩
set_option maxRecDepth 100000 in
set_option maxHeartbeats 8000000 in
theorem filled_any (r:Pl.Rv) (h:Hd) (fa:Option Addr) (fc:Nat) (fr:List En) (B:Nat) (w:World) (H:RvOwn w B r h) (hB:B≤w.heap.size) (hF:RowE w B fa fr.length fc fr) (hfam:Fam w B (⟨0,h.ua,h.uc,r.s.u⟩::(h.es++fr)))
 (n0:0≤r.s.n) (nb:r.s.n+(tot (h.es++fr):Int)≤1125899906842624) (ub:r.s.u.length+tot (h.es++fr)≤140737488351232) (cb:(h.es++fr).length*32≤140737488351232) (bd:∀ e∈h.es++fr,0≤e.f∧e.f+(e.bs.length:Int)≤1125899906842624) (r2:Pl.Rv) (hr2:fillR r (fr.map En.pc)=r2) :
 Calls Try.prog 63 #[.agg #[.int .i64 r.s.n,.slice h.ua r.s.u.length h.uc,.slice h.la h.es.length h.lc,.int .i64 r.cap,.int .i64 r.shift,.int .i64 r.edge,.int .u32 r.recent,.bool r.stamps,.bool r.sacks,.int .i64 r.fin,.bool r.dn,.slice h.fa r.first.length h.fc,.int .u32 r.irs,.int .u32 r.own,.bool r.stamp],.slice fa fr.length fc] w fun e w'=>∃ k:Hd,e=.returned (.agg #[.int .i64 r2.s.n,.slice k.ua r2.s.u.length k.uc,.slice k.la k.es.length k.lc,.int .i64 r2.cap,.int .i64 r2.shift,.int .i64 r2.edge,.int .u32 r2.recent,.bool r2.stamps,.bool r2.sacks,.int .i64 r2.fin,.bool r2.dn,.slice k.fa r2.first.length k.fc,.int .u32 r2.irs,.int .u32 r2.own,.bool r2.stamp])∧RvOwn w' B r2 k∧Keep B w w':=by
 obtain ⟨W0,hW0⟩:∃ W0,(w.alloc (.cells #[.int .i64 r.s.n,.slice h.ua r.s.u.length h.uc,.slice h.la h.es.length h.lc,.int .i64 r.cap,.int .i64 r.shift,.int .i64 r.edge,.int .u32 r.recent,.bool r.stamps,.bool r.sacks,.int .i64 r.fin,.bool r.dn,.slice h.fa r.first.length h.fc,.int .u32 r.irs,.int .u32 r.own,.bool r.stamp] 27)).alloc (.cells zR.toArray 27)=W0:=⟨_,rfl⟩
 have b0:Below w.heap.size w W0:=by rw [← hW0];exact zaa (zaa (Below.refl _ _) _) _
 have hX:Box W0 w.heap.size 27 (rvL r h):=by rw [← hW0];exact Box.alloc (Box.new w 27 (rvL r h)) _
 have hZ:Box W0 (w.heap.size+1) 27 zR:=by rw [← hW0];have:=Box.new (w.alloc (.cells (rvL r h).toArray 27)) 27 zR;rwa [World.size_alloc] at this
 have hs0:W0.heap.size=w.heap.size+2:=by rw [← hW0];simp
 obtain ⟨W2,hW2⟩:∃ W2,(W0.alloc (.cells #[.slice h.la h.es.length h.lc] 23)).alloc (.cells #[.slice fa fr.length fc] 23)=W2:=⟨_,rfl⟩
 have b2:Below W0.heap.size W0 W2:=by rw [← hW2];exact zaa (zaa (Below.refl _ _) _) _
 have b02:Below w.heap.size w W2:=Below.on b0 b2
 have hs2:W2.heap.size=w.heap.size+4:=by rw [← hW2];simp [hs0]
 have cB:=both_any h.la h.es.length h.lc fa fr.length fc W0
 rw [hW2] at cB
 have hBa:W2.cell? ⟨W0.heap.size,0,none⟩=some (.slice h.la h.es.length h.lc):=by
  rw [← hW2];exact ((Boxed.new W0 23 (.slice h.la h.es.length h.lc)).alloc _).cell
 have hBb:W2.cell? ⟨W0.heap.size+1,0,none⟩=some (.slice fa fr.length fc):=by
  rw [← hW2]
  have:=(Boxed.new (W0.alloc (.cells #[.slice h.la h.es.length h.lc] 23)) 23 (.slice fa fr.length fc)).cell
  rwa [World.size_alloc] at this
 obtain ⟨T,hT⟩:∃ T,bothE (h.es.length+fr.length) h.es fr=T:=⟨_,rfl⟩
 have hTp:T.Perm (h.es++fr):=by rw [← hT];exact zco (Nat.le_refl _)
 have hTt:=tot_perm hTp
 have hTl:=hTp.length_eq
 have hseq:=both_deep 5 W0.heap.size (W0.heap.size+1) h.lc fc h.la fa h.es fr w W2 H.row.ents hF.ents H.row.max.1 hF.max.1 (Nat.le_trans H.row.max.1 H.row.max.2) (Nat.le_trans hF.max.1 hF.max.2) b02 hBa hBb T hT
 have hbx2:Box W2 w.heap.size 27 (rvL r h):=hX.later b2
 have cM:=merged_any w W2 B w.heap.size [.slice h.la h.es.length h.lc,.int .i64 r.cap,.int .i64 r.shift,.int .i64 r.edge,.int .u32 r.recent,.bool r.stamps,.bool r.sacks,.int .i64 r.fin,.bool r.dn,.slice h.fa r.first.length h.fc,.int .u32 r.irs,.int .u32 r.own,.bool r.stamp] ⟨r.s.n,r.s.u,[]⟩ rfl h.ua h.uc T _ _ _ (fun k hk=>by have:=hk.2;have:=b02.size;omega) (fun k hk=>?_) hseq hbx2 ((hfam.perm (hTp.cons _)).later b02) (Keep.of_below b02 hB) hB (Nat.le_refl _) n0 (by rw [hTt];exact nb) (by rw [hTt];exact ub) (by rw [hTl];exact cb) (fun e he=>bd e (hTp.mem_iff.1 he))
 rotate_left
 · rcases hk.1 with h1|h1
   · obtain ⟨_,_,hlt,cur,e⟩:=zaj H.row h1
     exact ⟨cur,(b02.block k hlt).trans e⟩
   · obtain ⟨_,_,hlt,cur,e⟩:=zaj hF h1
     exact ⟨cur,(b02.block k hlt).trans e⟩
 have hmap:T.map En.pc=Pl.bothN (r.s.l.length+(fr.map En.pc).length) r.s.l (fr.map En.pc):=by
  rw [← hT,zdg,← H.les,List.length_map,List.length_map]
 have HH:Hid (RvOwn w B r h∧T.map En.pc=Pl.bothN (r.s.l.length+(fr.map En.pc).length) r.s.l (fr.map En.pc)∧fillR r (fr.map En.pc)=r2):=⟨H,hmap,hr2⟩
 have HZ:Hid (Box W2 (w.heap.size+1) 27 zR∧W2.heap.size=w.heap.size+4):=⟨hZ.later b2,hs2⟩
 have c2:=hX.cell 2 rfl
 clear H hF hfam nb ub cb bd b0 hX hZ hs0 b2 b02 hs2 hBa hBb hT hTp hTt hTl hseq hbx2 hmap hr2 hW2
 go_enter Try.func63,Try.ntmps63
 go_upto_region 3 with (first
  | (go_at_call 80;refine cB.mono ?_;rintro e w' ⟨rfl,hw'⟩;obtain rfl:=hw'.symm)
  | (go_at_call 79;refine cM.mono ?_;rintro e w3 ⟨n2,us,out,va,vc,ua2,uc2,own,rfl,hM3,hP3,hK3,hO3⟩;have hxc:=hM3.box.cell 2 rfl;have hxf:=hM3.box.frozen 2;have HM:Hid (_∧_∧_∧_):=⟨hM3,hP3,hK3,hO3⟩;clear hM3 hP3 hK3 hO3))
 clear cB cM c2 hW0
 obtain ⟨hM3,hP3,hK3,hO3⟩:=HM.out
 obtain ⟨k,hk⟩:∃ k:Hd,(⟨ua2,uc2,va,vc,out,h.fa,h.fc⟩:Hd)=k:=⟨_,rfl⟩
 have hs2:r2.s=⟨n2,us,out.map En.pc⟩:=by
  rw [← HH.out.2.2]
  show Pl.mrgGo (Pl.bothN (r.s.l.length+(fr.map En.pc).length) r.s.l (fr.map En.pc)) ⟨r.s.n,r.s.u,[]⟩=_
  rw [← HH.out.2.1];exact hP3.st
 have hre:r2={ r with s:=⟨n2,us,out.map En.pc⟩}:=by rw [← HH.out.2.2] at hs2 ⊢;unfold fillR at hs2 ⊢;simp only at hs2 ⊢;rw [hs2]
 have O3:RvOwn w3 B r2 k:=by
  rw [hre,← hk]
  refine ⟨rfl,?_,?_,?_,hK3.owns HH.out.1.fst (by decide),HH.out.1.frc⟩
  · have:=hP3.cb;simp at this;exact this
  · have h1:=HZ.out.2
    exact hM3.row.mono (by omega)
  · have:=hM3.fam;simpa using this
 obtain ⟨V,hV⟩:∃ V,w3.setCell ⟨w.heap.size,2,none⟩ (.slice va out.length vc)=V:=⟨_,rfl⟩
 have hbV:Box V w.heap.size 27 (rvL r2 k):=by
  rw [← hV,hre,← hk]
  exact hM3.box.set 2 _
 have hzw:Box w3 (w.heap.size+1) 27 zR:=hO3.box HZ.out.1 (by decide) (by omega)
 have hzV:Box V (w.heap.size+1) 27 zR:=by rw [← hV];exact hzw.aside _ _ _ (by omega)
 have OV:RvOwn V B r2 k:=by
  rw [← hV]
  exact O3.besideR hM3.box 2 [.slice va out.length vc]
 have KV:Keep B w V:=by rw [← hV];exact hK3.step hB (Chg.set (S:=fun k=>w.heap.size≤k) _ _ _ _ (Nat.le_refl _)) (fun k h=>.inl h)
 obtain ⟨Y,hY⟩:∃ Y,setAll V (w.heap.size+1) 0 [.int .i64 r2.s.n,.slice k.ua r2.s.u.length k.uc,.slice k.la k.es.length k.lc,.int .i64 r2.cap,.int .i64 r2.shift,.int .i64 r2.edge,.int .u32 r2.recent,.bool r2.stamps,.bool r2.sacks,.int .i64 r2.fin,.bool r2.dn,.slice k.fa r2.first.length k.fc,.int .u32 r2.irs,.int .u32 r2.own,.bool r2.stamp]=Y:=⟨_,rfl⟩
 have HF:Hid (Box Y (w.heap.size+1) 27 (rvL r2 k)∧RvOwn Y B r2 k∧Keep B w Y):=by
  rw [← hY]
  exact ⟨hzV.put [.int .i64 r2.s.n,.slice k.ua r2.s.u.length k.uc,.slice k.la k.es.length k.lc,.int .i64 r2.cap,.int .i64 r2.shift,.int .i64 r2.edge,.int .u32 r2.recent,.bool r2.stamps,.bool r2.sacks,.int .i64 r2.fin,.bool r2.dn,.slice k.fa r2.first.length k.fc,.int .u32 r2.irs,.int .u32 r2.own,.bool r2.stamp] rfl,OV.besideR hzV 0 _,KV.step hB (zca (S:=fun k=>w.heap.size≤k) (by omega) _ _ _) (fun k h=>.inl h)⟩
 have HY:Hid (setAll V (w.heap.size+1) 0 [.int .i64 r2.s.n,.slice k.ua r2.s.u.length k.uc,.slice k.la k.es.length k.lc,.int .i64 r2.cap,.int .i64 r2.shift,.int .i64 r2.edge,.int .u32 r2.recent,.bool r2.stamps,.bool r2.sacks,.int .i64 r2.fin,.bool r2.dn,.slice k.fa r2.first.length k.fc,.int .u32 r2.irs,.int .u32 r2.own,.bool r2.stamp]=Y):=hY
 rw [hV]
 clear hM3 hP3 hK3 hO3 HM hs2 hre O3 hV hzw OV KV hY hxc hxf
 obtain ⟨c0,c1,c2,c3,c4,c5,c6,c7,c8,c9,c10,c11,c12,c13,c14⟩:=Box.c15 hbV
 obtain ⟨d0,d1,d2,d3,d4,d5,d6,d7,d8,d9,d10,d11,d12,d13,d14⟩:=Box.c15 hzV
 obtain ⟨f0,f1,f2,f3,f4,f5,f6,f7,f8,f9,f10,f11,f12,f13,f14⟩:=Box.f15 hzV
 clear hbV hzV
 go_wp2_with fail
 have h0:=HF.out
 rw [← HY.out] at h0
 refine bodyPost_ret (res_r rfl _ _ (w.heap.size+1) [.int .i64 r2.s.n,.slice k.ua r2.s.u.length k.uc,.slice k.la k.es.length k.lc,.int .i64 r2.cap,.int .i64 r2.shift,.int .i64 r2.edge,.int .u32 r2.recent,.bool r2.stamps,.bool r2.sacks,.int .i64 r2.fin,.bool r2.dn,.slice k.fa r2.first.length k.fc,.int .u32 r2.irs,.int .u32 r2.own,.bool r2.stamp] rfl rfl h0.1) rfl ?_
 exact ⟨k,rfl,h0.2.1,h0.2.2⟩
end Go.Proofs.Ytkigcdmlkmcdcaa
