/- The document's Input: what stands between its steps. -/
import Derived.Test.YtkigcdmlkmcdcaaQZ
import Derived.Test.YtkigcdmlkmcdcaaQMRefTk
import Derived.Test.YtkigcdmlkmcdcaaQMRefFst
import Derived.Test.YtkigcdmlkmcdcaaQMRefTel2
import Derived.Test.YtkigcdmlkmcdcaaQMSpansW
namespace Go.Proofs.Ytkigcdmlkmcdcaa
open Go.ChangeShapes Go.WideShapes Go.ChangeAt Go.RowKit
set_option linter.unusedVariables false
set_option linter.unusedSimpArgs false
theorem RvOwn.tk {w:World} {B:Nat} {r:Pl.Rv} {h:Hd} (H:RvOwn w B r h):TkAt w B r.s h:=by
 obtain ⟨ua,uc,la,lc,es,fa,fc⟩:=h
 refine ⟨H.les,⟨H.reach,H.row.max.1,H.row.max.2,H.row.nil0,H.row.ents,fun x hx=>(H.fam.mine x (List.mem_cons_of_mem _ hx)).ok⟩,H.fam,fun k hk=>?_⟩
 obtain ⟨_,_,_,cur,e⟩:=zaj H.row hk
 exact ⟨cur,_,e⟩
structure RiS (w wx:World) (r:Pl.Rv) (k:Hd) (s:Seg) (ks:Hs):Prop where
 box:Box wx w.heap.size 27 (rvL r k)
 sg:Box wx (w.heap.size+1) 34 (sgL s ks)
 zr:Box wx (w.heap.size+2) 27 zR
 zs:Box wx (w.heap.size+3) 34 zS
 tk:TkAt wx w.heap.size r.s k
 fst:RowT wx w.heap.size k.fa r.first.length k.fc r.first
 frc:r.first.length*16≤140737488351232
 bel:Below w.heap.size w wx
section
variable {w wx wy:World} {r r':Pl.Rv} {k:Hd} {s:Seg} {ks:Hs}
theorem RiS.later (H:RiS w wx r k s ks) (hb:Below wx.heap.size wx wy):RiS w wy r k s ks:=⟨H.box.later hb,H.sg.later hb,H.zr.later hb,H.zs.later hb,H.tk.later hb,H.fst.later hb,H.frc,Below.on H.bel hb⟩
theorem RiS.put1 (H:RiS w wx r k s ks) (j:Nat) (u:Value) (hs:r'.s=r.s) (hf:r'.first=r.first) (hl:(rvL r k).set j u=rvL r' k):RiS w (wx.setCell ⟨w.heap.size,j,none⟩ u) r' k s ks:=by
 have hb:=H.box.set j u
 rw [hl] at hb
 refine ⟨hb,H.sg.aside _ _ _ (by omega),H.zr.aside _ _ _ (by omega),H.zs.aside _ _ _ (by omega),?_,?_,by rw [hf];exact H.frc,zar H.bel _ _ _ (Nat.le_refl _)⟩
 · rw [hs];exact H.tk.beside H.box (by decide) (by decide) j u
 · rw [hf];exact zan H.fst H.box (by decide) j u
theorem RiS.put11 (H:RiS w wx r k s ks) {va:Option Addr} {vc:Nat} {L:List Tm} (hR:RowT wx w.heap.size va L.length vc L) (hL:L.length*16≤140737488351232):RiS w (wx.setCell ⟨w.heap.size,11,none⟩ (.slice va L.length vc)) { r with first:=L} { k with fa:=va,fc:=vc} s ks:=by
 have hb:=H.box.set 11 (.slice va L.length vc)
 have ht:=H.tk.beside H.box (by decide) (by decide) 11 (.slice va L.length vc)
 exact ⟨hb,H.sg.aside _ _ _ (by omega),H.zr.aside _ _ _ (by omega),H.zs.aside _ _ _ (by omega),⟨ht.les,ht.pcs,ht.fam,ht.pt⟩,zan hR H.box (by decide) 11 _,hL,zar H.bel _ _ _ (Nat.le_refl _)⟩
theorem RiS.at (H:RiS w wx r k s ks) (ho:r.Ok) (h1:U32 r.recent) (h2:U32 r.irs) (h3:U32 r.own):RvAt wx r k:=by
 have q1:(⟨0,k.ua,k.uc,r.s.u⟩:En).mine wx w.heap.size:=zc0 H.tk
 have b1:=ho.n0;have b2:=ho.nf;have b3:=ho.c1;have b4:=ho.cm;have b5:=ho.s0;have b6:=ho.s14;have b7:=ho.e0;have b8:=ho.er;have b9:=ho.f1;have b10:=ho.ff
 unfold Pl.Rv.reach Pl.Rx.bot at b8
 unfold Pl.farI at b2 b10
 exact { un:=q1.ok.1,late:=H.tk.pcs,les:=H.tk.les,fst:=H.fst.sp H.frc,n:=by unfold I64;omega,cap:=by unfold I64;omega,shift:=by unfold I64;omega,edge:=by unfold I64;omega,recent:=h1,fin:=by unfold I64;omega,irs:=h2,own:=h3}
end
theorem off_seq {r:Pl.Rv} {g:Pl.Sg} (hs:U32 g.seq) (hi:U32 r.irs) (m:Int):blkI r.irs (Pl.offI r g,Pl.offI r g+m)=(g.seq,Pl.adI g.seq m):=by
 unfold U32 at hs hi
 unfold blkI Pl.offI Pl.dfI Pl.adI
 simp only [Prod.mk.injEq]
 constructor<;>omega
theorem ahead_sk {r:Pl.Rv} {g:Pl.Sg} (hok:r.Ok) (hs:U32 g.seq) (hi:U32 r.irs) {b:Bool} (hb:b=decide (r.sacks=true∧0<g.ds.length∧0≤Pl.offI r g∧(Pl.takeR r g).2=false)) :
 refSk r.irs r.stamps r.sacks (if b=true then [(g.seq,Pl.adI g.seq (g.ds.length:Int))] else []) (Pl.intoR r g).first=sackL r.irs r.stamps r.sacks (blkL r g):=by
 have hf:=(zeu (g:=g) hok).2
 unfold blkL
 cases hsa:r.sacks with
 | false =>
  rw [hsa] at hb
  have hb':b=false:=by rw [hb];simp
  rw [hb']
  unfold refSk sackL
  simp
 | true =>
  rw [hsa] at hb
  by_cases c:0<g.ds.length∧0≤Pl.offI r g∧zbp r g=[]
  · have hb':b=true:=by rw [hb];exact decide_eq_true ⟨rfl,c.1,c.2.1,hf.1 c.2.2⟩
    rw [hb',if_pos rfl,if_pos c,← off_seq hs hi]
    unfold refSk sackL
    rw [if_pos rfl,if_pos rfl]
    cases r.stamps<;>rfl
  · have hb':b=false:=by
     rw [hb];apply decide_eq_false
     rintro ⟨_,c1,c2,c3⟩
     exact c ⟨c1,c2,hf.2 c3⟩
    rw [hb',if_neg (by simp),if_neg c]
    exact refSk_nil _ _ _ _
set_option maxHeartbeats 4000000 in
theorem refTell_blk (r:Pl.Rv) (h:Hd) (ba:Option Addr) (bn bc:Nat) (aw:List (Int×Int)) (bl:List Tm) (Bk:Nat) (w:World) (HC:∀ U,Chg (lies ba) w U→RvAt U r h) (hok:r.Ok) (hrow:RowB w Bk ba bn bc aw) (hBk:Bk≤w.heap.size) (hbn:bn≤3) (hsk:refSk r.irs r.stamps r.sacks aw r.first=sackL r.irs r.stamps r.sacks bl) :
 Calls Try.prog 40 #[.agg #[.int .i64 r.s.n,.slice h.ua r.s.u.length h.uc,.slice h.la h.es.length h.lc,.int .i64 r.cap,.int .i64 r.shift,.int .i64 r.edge,.int .u32 r.recent,.bool r.stamps,.bool r.sacks,.int .i64 r.fin,.bool r.dn,.slice h.fa r.first.length h.fc,.int .u32 r.irs,.int .u32 r.own,.bool r.stamp],.slice ba bn bc] w fun e w'=>∃ (k:Hd) (ks:Hs),e=.returned (.tuple #[.agg #[.int .i64 (Pl.tellR r).s.n,.slice k.ua (Pl.tellR r).s.u.length k.uc,.slice k.la k.es.length k.lc,.int .i64 (Pl.tellR r).cap,.int .i64 (Pl.tellR r).shift,.int .i64 (Pl.tellR r).edge,.int .u32 (Pl.tellR r).recent,.bool (Pl.tellR r).stamps,.bool (Pl.tellR r).sacks,.int .i64 (Pl.tellR r).fin,.bool (Pl.tellR r).dn,.slice k.fa (Pl.tellR r).first.length k.fc,.int .u32 (Pl.tellR r).irs,.int .u32 (Pl.tellR r).own,.bool (Pl.tellR r).stamp],.agg #[.int .i64 (tellS r bl).sp,.int .i64 (tellS r bl).dp,.int .u32 (tellS r bl).sq,.int .u32 (tellS r bl).ak,.int .i64 (tellS r bl).fl,.int .i64 (tellS r bl).wn,.int .i64 (tellS r bl).ur,.int .i64 (tellS r bl).ms,.int .i64 (tellS r bl).sc,.bool (tellS r bl).so,.bool (tellS r bl).st,.int .u32 (tellS r bl).va,.int .u32 (tellS r bl).ec,.slice ks.ka (tellS r bl).sk.length ks.kc,.slice ks.da (tellS r bl).da.length ks.dc]])∧RvOwn w' w.heap.size (Pl.tellR r) k∧SgOwn w' Bk (tellS r bl) ks∧Chg (lies ba) w w':=by
 obtain ⟨ua,uc,la,lc,es,fa,fc⟩:=h
 have H:=HC w (Chg.of_below (Below.refl _ _))
 have hwb:=Pl.window_bd hok.uc
 have hcm:=hok.cm
 have he:=hok.er
 have hr:=Pl.Ok.reach hok
 have hnf:=hok.nf
 have hn0:=hok.n0
 have hun:=hok.un
 unfold Pl.Rv.reach Pl.Rx.bot at he
 unfold Pl.farI at hnf
 have hnn:(if r.dn=true then r.s.n+1 else r.s.n)≤562949953421313∧0≤(if r.dn=true then r.s.n+1 else r.s.n):=by split<;>omega
 refine (zga r.s.n r.cap r.shift r.edge r.recent r.fin r.irs r.own r.stamps r.sacks r.dn r.stamp ua r.s.u.length uc la es.length lc fa r.first.length fc r ba bn bc aw Bk w r.window _ _ (if r.dn=true then Pl.adI (Pl.adI r.irs r.s.n) 1 else Pl.adI r.irs r.s.n) _ _ r.first _ _
  (fun W=>zdr r ⟨ua,uc,la,lc,es,fa,fc⟩ W (ok_lowB hok)) (fun W=>?_) (fun x hx W=>?_) (fun U hU=>?_) (fun U hU=>(HC U hU).fst) rfl hrow hBk hbn rfl ⟨hwb.1,by omega⟩ ⟨hok.n0,hnf⟩ ⟨hok.s0,hok.s14⟩ ⟨hok.e0,by omega⟩ rfl hsk rfl rfl rfl).mono ?_
 · have:=zbj r.irs (if r.dn=true then r.s.n+1 else r.s.n) H.irs ⟨by omega,by omega⟩ W
   rwa [ak_is] at this
 · have hb:=first_bd hok hx
   exact ⟨zbj r.irs x.1 H.irs ⟨by omega,by omega⟩ W,zbj r.irs x.2 H.irs ⟨by omega,by omega⟩ W⟩
 · refine (zct r ⟨ua,uc,la,lc,es,fa,fc⟩ U (HC U hU)).mono ?_
   rintro e w' ⟨⟨ua1,uc1,la1,lc1,es1,fa1,fc1⟩,rfl,hO,hB⟩
   refine ⟨ua1,uc1,la1,lc1,es1,fa1,fc1,?_,hO,hB⟩
   have h3:es1.length=es.length:=by
    have:=congrArg List.length (hO.les.trans H.les.symm)
    simpa using this
   simp only [h3]
 · rintro e w' ⟨ua1,uc1,la1,lc1,es1,fa1,fc1,ka,kc,rfl,hO,hR,hl,hc⟩
   refine ⟨⟨ua1,uc1,la1,lc1,es1,fa1,fc1⟩,⟨ka,kc,none,0⟩,?_,hO.tell,⟨hR,?_,rfl,rfl,rfl⟩,hc⟩
   · have h3:es1.length=es.length:=by
      have:=congrArg List.length (hO.les.trans H.les.symm)
      simpa using this
     simp only [h3]
     rfl
   · show (sackL r.irs r.stamps r.sacks bl).length≤4
     unfold sackL
     split
     · rw [List.length_map,List.length_take]
       split<;>omega
     · simp
def zej (w:World) (ra:Pl.Rv) (bl:List Tm) (e:Ending) (w':World):Prop:=∃ (k:Hd) (kt:Hs),e=.returned (.tuple #[.agg #[.int .i64 (Pl.tellR ra).s.n,.slice k.ua (Pl.tellR ra).s.u.length k.uc,.slice k.la k.es.length k.lc,.int .i64 (Pl.tellR ra).cap,.int .i64 (Pl.tellR ra).shift,.int .i64 (Pl.tellR ra).edge,.int .u32 (Pl.tellR ra).recent,.bool (Pl.tellR ra).stamps,.bool (Pl.tellR ra).sacks,.int .i64 (Pl.tellR ra).fin,.bool (Pl.tellR ra).dn,.slice k.fa (Pl.tellR ra).first.length k.fc,.int .u32 (Pl.tellR ra).irs,.int .u32 (Pl.tellR ra).own,.bool (Pl.tellR ra).stamp],.agg #[.int .i64 (tellS ra bl).sp,.int .i64 (tellS ra bl).dp,.int .u32 (tellS ra bl).sq,.int .u32 (tellS ra bl).ak,.int .i64 (tellS ra bl).fl,.int .i64 (tellS ra bl).wn,.int .i64 (tellS ra bl).ur,.int .i64 (tellS ra bl).ms,.int .i64 (tellS ra bl).sc,.bool (tellS ra bl).so,.bool (tellS ra bl).st,.int .u32 (tellS ra bl).va,.int .u32 (tellS ra bl).ec,.slice kt.ka (tellS ra bl).sk.length kt.kc,.slice kt.da (tellS ra bl).da.length kt.dc],.bool true,.int .i64 0])∧RvOwn w' w.heap.size (Pl.tellR ra) k∧SgOwn w' w.heap.size (tellS ra bl) kt∧Below w.heap.size w w'
end Go.Proofs.Ytkigcdmlkmcdcaa
namespace Go.Proofs.Ytkigcdmlkmcdcaa
open Go.ChangeShapes Go.WideShapes Go.ChangeAt Go.RowKit
set_option linter.unusedVariables false
set_option linter.unusedSimpArgs false
theorem chg_low {W X U:World} {ba:Option Addr} (h:Below W.heap.size W X) (hc:Chg (lies ba) X U) (hl:∀ k,lies ba k→W.heap.size≤k):Below W.heap.size W U :=
 ⟨hc.flat.os.trans h.os,hc.flat.tape.trans h.tape,hc.flat.output.trans h.output,Nat.le_trans h.size hc.flat.size,fun k hk=>(hc.same k (by have:=h.size;omega) (fun e=>by have:=hl k e;omega)).trans (h.block k hk)⟩
def opensR (n:Nat):Code→Bool
 | .region m _ _=>m==n
 | .seq a _=>opensR n a
 | _=>false
def fromA (n:Nat):Code→Option Code
 | .seq a b=>if opensR n a then some (.seq a b) else match fromA n a with
  | some c=>some c
  | none=>fromA n b
 | _=>none
set_option maxRecDepth 100000 in
set_option maxHeartbeats 16000000 in
theorem refIn4 (ra:Pl.Rv) (k:Hd) (s:Seg) (ks:Hs) (w W wc:World) (ba:Option Addr) (bc:Nat) (aw:List (Int×Int)) (bl:List Tm) (u0 u1 u6 u7 u8 u9 u10 u11 u12 u13 u14 u15 u16 u18 u19 u20 u21 u22 u23 u24 u25 u26 u27 u28 u29 u30 u31 u32 u33 u34 u35 u36 u37 u38 u39 u40 u41 u42 u43 u44 u45 u46 u47 u48 u49 u50 u51 u52 u53 u54 u55 u56 u57 u58 u59 u60 u61 u62 u63 u64 u65 u66 u67 u68 u69 u70 u71 u72 u73 u74 u75 u76 u77 u78 u79 u80 u81 u82 u83 u84 u85 u86 u87 u88 u89 u90 u91 u92 u93 u94 u95 u96 u97 u98 u99 u100 u101 u102 u103 u104 u105 u106 u107 u108 u109 u110 u111 u112 u113 u114 u115 u116 u117 u118 u119 u120 u121 u122 u123 u124 u125 u126 u127 u128 u129 u130 u131 u132 u133 u134 u135 u136 u137 u138 u139 u140 u141 u142 u143 u144 u145 u146 u147 u148 u149 u150 u151 u152 u153 u154 u155 u156 u157 u158 u159 u160 u161 u162 u163 u164 u165 u166 u167 u168 u169 u170 u171 u172 u173 u174 u175 u176 u177 u178 u179 u180 u181 u182 u183 u184 u185 u186 u187 u188 u189 u190 u191 u192 u193 u194 u195 u196 u197:Value) (HOK:Hid (ra.Ok∧U32 ra.recent∧U32 ra.irs∧U32 ra.own∧SgAt w s ks)) (HS:Hid (RiS w W ra k s ks∧Below W.heap.size W wc∧RowB wc W.heap.size ba aw.length bc aw∧(∀ k,lies ba k→W.heap.size≤k)∧aw.length≤1)) (HA:Hid (refSk ra.irs ra.stamps ra.sacks aw ra.first=sackL ra.irs ra.stamps ra.sacks bl)) :
 Code.wp Try.prog ((Try.f15.body.bind (fromA 29)).getD .skip) (bodyPost Try.prog Try.f15 (zej w ra bl)) ⟨#[u0,u1,.pointer (some ⟨w.heap.size,0,none⟩),.pointer (some ⟨w.heap.size+1,0,none⟩),.pointer (some ⟨w.heap.size+2,0,none⟩),.pointer (some ⟨w.heap.size+3,0,none⟩),u6,u7,u8,u9,u10,u11,u12,u13,u14,u15,u16,.slice ba aw.length bc,u18,u19,u20,u21,u22,u23,u24,u25,u26,u27,u28,u29,u30,u31,u32,u33,u34,u35,u36,u37,u38,u39,u40,u41,u42,u43,u44,u45,u46,u47,u48,u49,u50,u51,u52,u53,u54,u55,u56,u57,u58,u59,u60,u61,u62,u63,u64,u65,u66,u67,u68,u69,u70,u71,u72,u73,u74,u75,u76,u77,u78,u79,u80,u81,u82,u83,u84,u85,u86,u87,u88,u89,u90,u91,u92,u93,u94,u95,u96,u97,u98,u99,u100,u101,u102,u103,u104,u105,u106,u107,u108,u109,u110,u111,u112,u113,u114,u115,u116,u117,u118,u119,u120,u121,u122,u123,u124,u125,u126,u127,u128,u129,u130,u131,u132,u133,u134,u135,u136,u137,u138,u139,u140,u141,u142,u143,u144,u145,u146,u147,u148,u149,u150,u151,u152,u153,u154,u155,u156,u157,u158,u159,u160,u161,u162,u163,u164,u165,u166,u167,u168,u169,u170,u171,u172,u173,u174,u175,u176,u177,u178,u179,u180,u181,u182,u183,u184,u185,u186,u187,u188,u189,u190,u191,u192,u193,u194,u195,u196,u197],[]⟩ wc:=by
 conv=>arg 2;whnf
 have cT:=refTell_blk ra k ba aw.length bc aw bl W.heap.size wc (fun U hU=>(HS.out.1.later (chg_low HS.out.2.1 hU HS.out.2.2.2.1)).at HOK.out.1 HOK.out.2.1 HOK.out.2.2.1 HOK.out.2.2.2.1) HOK.out.1 HS.out.2.2.1 HS.out.2.1.size (by have:=HS.out.2.2.2.2;omega) HA.out
 obtain ⟨R,hR⟩:∃ R,Pl.tellR ra=R:=⟨_,rfl⟩
 obtain ⟨T,hT⟩:∃ T,tellS ra bl=T:=⟨_,rfl⟩
 have HE:Hid (Pl.tellR ra=R∧tellS ra bl=T):=⟨hR,hT⟩
 rw [hR,hT] at cT
 obtain ⟨c0,c1,c2,c3,c4,c5,c6,c7,c8,c9,c10,c11,c12,c13,c14⟩:=Box.c15 (HS.out.1.box.later HS.out.2.1)
 clear hR hT
 go_wp2_with fail
 refine cT.mono ?_
 rintro e w9 ⟨k3,kt,rfl,hO9,hG9,hc9⟩
 clear c0 c1 c2 c3 c4 c5 c6 c7 c8 c9 c10 c11 c12 c13 c14 cT
 have HT:Hid (RvOwn w9 w.heap.size R k3∧SgOwn w9 w.heap.size T kt∧Box w9 (w.heap.size+2) 27 zR∧Box w9 (w.heap.size+3) 34 zS∧Below w.heap.size w w9∧w.heap.size+4≤w9.heap.size):=by
  have h1:=chg_low HS.out.2.1 hc9 HS.out.2.2.2.1
  have h2:=HS.out.1.later h1
  have h3:=h2.zs.lt
  have h4:=HS.out.1.bel.size
  have h5:=HS.out.2.1.size
  exact ⟨hO9.mono (by omega),hG9.mono (by omega),h2.zr,h2.zs,h2.bel,by omega⟩
 clear hO9 hG9 hc9 HS HA
 go_upto_region 30 with fail
 obtain ⟨Yb,hYb⟩:∃ Yb,(w9.alloc (.cells #[.int .i64 R.s.n,.slice k3.ua R.s.u.length k3.uc,.slice k3.la k3.es.length k3.lc,.int .i64 R.cap,.int .i64 R.shift,.int .i64 R.edge,.int .u32 R.recent,.bool R.stamps,.bool R.sacks,.int .i64 R.fin,.bool R.dn,.slice k3.fa R.first.length k3.fc,.int .u32 R.irs,.int .u32 R.own,.bool R.stamp] 27)).alloc (.cells #[.int .i64 T.sp,.int .i64 T.dp,.int .u32 T.sq,.int .u32 T.ak,.int .i64 T.fl,.int .i64 T.wn,.int .i64 T.ur,.int .i64 T.ms,.int .i64 T.sc,.bool T.so,.bool T.st,.int .u32 T.va,.int .u32 T.ec,.slice kt.ka T.sk.length kt.kc,.slice kt.da T.da.length kt.dc] 34)=Yb:=⟨_,rfl⟩
 have bYb:Below w9.heap.size w9 Yb:=by rw [← hYb];exact zaa (zaa (Below.refl _ _) _) _
 have x1:Box Yb w9.heap.size 27 (rvL R k3):=by rw [← hYb];exact (Box.new w9 27 (rvL R k3)).alloc _
 have x2:Box Yb (w9.heap.size+1) 34 [.int .i64 T.sp,.int .i64 T.dp,.int .u32 T.sq,.int .u32 T.ak,.int .i64 T.fl,.int .i64 T.wn,.int .i64 T.ur,.int .i64 T.ms,.int .i64 T.sc,.bool T.so,.bool T.st,.int .u32 T.va,.int .u32 T.ec,.slice kt.ka T.sk.length kt.kc,.slice kt.da T.da.length kt.dc]:=by rw [← hYb];have:=Box.new (w9.alloc (.cells #[.int .i64 R.s.n,.slice k3.ua R.s.u.length k3.uc,.slice k3.la k3.es.length k3.lc,.int .i64 R.cap,.int .i64 R.shift,.int .i64 R.edge,.int .u32 R.recent,.bool R.stamps,.bool R.sacks,.int .i64 R.fin,.bool R.dn,.slice k3.fa R.first.length k3.fc,.int .u32 R.irs,.int .u32 R.own,.bool R.stamp] 27)) 34 (sgL T kt);rwa [World.size_alloc] at this
 have HYb:Hid (Box Yb w9.heap.size 27 (rvL R k3)∧Box Yb (w9.heap.size+1) 34 [.int .i64 T.sp,.int .i64 T.dp,.int .u32 T.sq,.int .u32 T.ak,.int .i64 T.fl,.int .i64 T.wn,.int .i64 T.ur,.int .i64 T.ms,.int .i64 T.sc,.bool T.so,.bool T.st,.int .u32 T.va,.int .u32 T.ec,.slice kt.ka T.sk.length kt.kc,.slice kt.da T.da.length kt.dc]∧Box Yb (w.heap.size+2) 27 zR∧Box Yb (w.heap.size+3) 34 zS∧RvOwn Yb w.heap.size R k3∧SgOwn Yb w.heap.size T kt∧Below w.heap.size w Yb∧w.heap.size+4≤w9.heap.size) :=
  ⟨x1,x2,HT.out.2.2.1.later bYb,HT.out.2.2.2.1.later bYb,HT.out.1.later bYb,HT.out.2.1.later bYb,Below.on HT.out.2.2.2.2.1 bYb,HT.out.2.2.2.2.2⟩
 rw [hYb]
 clear hYb bYb x1 x2 HT
 obtain ⟨S,hS⟩:∃ S:World→Prop,S=fun W=>Box W w9.heap.size 27 (rvL R k3)∧Box W (w9.heap.size+1) 34 [.int .i64 T.sp,.int .i64 T.dp,.int .u32 T.sq,.int .u32 T.ak,.int .i64 T.fl,.int .i64 T.wn,.int .i64 T.ur,.int .i64 T.ms,.int .i64 T.sc,.bool T.so,.bool T.st,.int .u32 T.va,.int .u32 T.ec,.slice kt.ka T.sk.length kt.kc,.slice kt.da T.da.length kt.dc]:=⟨_,rfl⟩
 have y0:∀ {ps:String} (ev:Operand→Value),ev (.tmp 18)=.pointer (some ⟨w9.heap.size,0,none⟩)→∀ W,S W→(execOp ev ⟨some 196,.load 27 (.tmp 18),27,ps,#[],none⟩).run Try.prog W=.ok (.value (.agg #[.int .i64 R.s.n,.slice k3.ua R.s.u.length k3.uc,.slice k3.la k3.es.length k3.lc,.int .i64 R.cap,.int .i64 R.shift,.int .i64 R.edge,.int .u32 R.recent,.bool R.stamps,.bool R.sacks,.int .i64 R.fin,.bool R.dn,.slice k3.fa R.first.length k3.fc,.int .u32 R.irs,.int .u32 R.own,.bool R.stamp])) W:=by
  intro ps ev h0 W hSw
  rw [hS] at hSw
  obtain ⟨c0,c1,c2,c3,c4,c5,c6,c7,c8,c9,c10,c11,c12,c13,c14⟩:=Box.c15 hSw.1
  first|(go_simp;done)|(go_simp;with_reducible rfl)
 have y1:∀ {ps:String} (ev:Operand→Value),ev (.tmp 19)=.pointer (some ⟨w9.heap.size+1,0,none⟩)→∀ W,S W→(execOp ev ⟨some 197,.load 34 (.tmp 19),34,ps,#[⟨2,.gcOnly .lateStores⟩],none⟩).run Try.prog W=.ok (.value (.agg #[.int .i64 T.sp,.int .i64 T.dp,.int .u32 T.sq,.int .u32 T.ak,.int .i64 T.fl,.int .i64 T.wn,.int .i64 T.ur,.int .i64 T.ms,.int .i64 T.sc,.bool T.so,.bool T.st,.int .u32 T.va,.int .u32 T.ec,.slice kt.ka T.sk.length kt.kc,.slice kt.da T.da.length kt.dc])) W:=by
  intro ps ev h0 W hSw
  rw [hS] at hSw
  obtain ⟨c0,c1,c2,c3,c4,c5,c6,c7,c8,c9,c10,c11,c12,c13,c14⟩:=Box.c15 hSw.2
  first|(go_simp;done)|(go_simp;with_reducible rfl)
 have y4:∀ {ps:String} (ev:Operand→Value),ev (.const (.bool true))=.bool true→∀ W,S W→(execOp ev ⟨some 6,.assign (.const (.bool true)),4,ps,#[⟨3,.chain⟩,⟨0,.phase⟩,⟨1,.phase⟩,⟨2,.phase⟩,⟨3,.phase⟩],none⟩).run Try.prog W=.ok (.value (.bool true)) W:=by
  intro ps ev h0 W hSw
  rw [hS] at hSw
  try dsimp only at hSw
  first|(go_simp;done)|(go_simp;with_reducible rfl)
 have hdr:Below Yb.heap.size Yb Yb.drew:=Below.drew (Below.refl _ _)
 have hSd:S Yb.drew:=by rw [hS];exact ⟨HYb.out.1.later hdr,HYb.out.2.1.later hdr⟩
 have z1:=HYb.out.2.2.1.later hdr
 have z2:=HYb.out.2.2.2.1.later hdr
 have sz:=HYb.out.2.2.2.2.2.2.2
 obtain ⟨X3,hX3⟩:∃ X3,setAll Yb.drew (w.heap.size+2) 0 (rvL R k3)=X3:=⟨_,rfl⟩
 have hS3:S X3:=by rw [hS,← hX3];exact ⟨(HYb.out.1.later hdr).putAside _ _ _ (by omega),(HYb.out.2.1.later hdr).putAside _ _ _ (by omega)⟩
 have z3:Box X3 (w.heap.size+2) 27 (rvL R k3):=by rw [← hX3];exact z1.put _ rfl
 have z4:Box X3 (w.heap.size+3) 34 zS:=by rw [← hX3];exact z2.putAside _ _ _ (by omega)
 obtain ⟨X5,hX5⟩:∃ X5,setAll X3 (w.heap.size+3) 0 (sgL T kt)=X5:=⟨_,rfl⟩
 have hS5:S X5:=by
  rw [hS] at hS3 ⊢
  rw [← hX5];exact ⟨hS3.1.putAside _ _ _ (by omega),hS3.2.putAside _ _ _ (by omega)⟩
 have HF:Hid (Box X5 (w.heap.size+2) 27 (rvL R k3)∧Box X5 (w.heap.size+3) 34 (sgL T kt)∧RvOwn X5 w.heap.size R k3∧SgOwn X5 w.heap.size T kt∧Below w.heap.size w X5):=by
  rw [← hX5]
  refine ⟨z3.putAside _ _ _ (by omega),z4.put _ rfl,RvOwn.besideS ?_ z4 0 _,SgOwn.besideS ?_ z4 0 _,zaf (by omega) ?_⟩
  · rw [← hX3];exact (HYb.out.2.2.2.2.1.later hdr).besideR z1 0 _
  · have hg:=HYb.out.2.2.2.2.2.1.later hdr
    rw [← hX3];exact { hg with row:=zav hg.row z1 (by decide) _ _}
  · rw [← hX3];exact zaf (by omega) (Below.on HYb.out.2.2.2.2.2.2.1 hdr)
 have HXY:Hid (setAll Yb.drew (w.heap.size+2) 0 (rvL R k3)=X3∧setAll X3 (w.heap.size+3) 0 (sgL T kt)=X5):=⟨hX3,hX5⟩
 clear hX3 hX5 z3 z2 sz HYb hdr
 refine zaq S 5 (by kernel_rfl) hSd (fun hHeld=>?_)
 refine zk 0 (y0 _ rfl) ?_
 try simp only [Act.put,qA,qZ,qS]
 refine zk 1 (y1 _ rfl) ?_
 try simp only [Act.put,qA,qZ,qS]
 refine zah (i:=2) (o:=⟨none,.store 27 (.tmp 4) (.tmp 196),0,_,#[⟨0,.data⟩,⟨0,.phase⟩,⟨1,.textOnly .lateStores⟩],none⟩) (by kernel_rfl) rfl (fun K hK=>?_)
 refine zbx rfl (.tmp 4) (.tmp 196) rfl R k3 (w.heap.size+2) (cs:=zR) rfl rfl rfl z1 HXY.out.1 (fun v=>?_)
 refine hK.out _ _ ⟨fun _=>hS3,?_⟩
 clear hK K hHeld hSd
 try simp only [Act.put,qA,qZ,qS]
 refine zah (i:=3) (o:=⟨none,.store 34 (.tmp 5) (.tmp 197),0,_,#[⟨1,.data⟩,⟨2,.chain⟩,⟨0,.phase⟩,⟨1,.phase⟩,⟨2,.phase⟩],none⟩) (by kernel_rfl) rfl (fun K hK=>?_)
 refine zd5 rfl (.tmp 5) (.tmp 197) rfl T kt (w.heap.size+3) (cs:=zS) rfl rfl rfl z4 HXY.out.2 (fun v=>?_)
 refine hK.out _ _ ⟨fun _=>hS5,?_⟩
 clear hK K
 try simp only [Act.put,qA,qZ,qS]
 refine zk 4 (y4 _ rfl) ?_
 try simp only [Act.put,qA,qZ,qS]
 refine zah (i:=5) (o:=⟨some 7,.assign (.const (.int .i64 0)),3,_,#[⟨4,.chain⟩,⟨0,.phase⟩,⟨1,.phase⟩,⟨2,.phase⟩,⟨3,.phase⟩,⟨4,.phase⟩],none⟩) (by kernel_rfl) rfl (fun K hK=>?_)
 rw [if_pos (by rfl)]
 go_simp
 refine hK.out _ _ ⟨fun h=>absurd rfl h,?_⟩
 clear hK K
 refine zax (by kernel_rfl) ?_ _
 try simp only [Act.put,qA,qZ,qS]
 clear z1 z4 hS3 hS5 y0 y1 y4 hS HXY
 go_wp2_with fail
 refine bodyPost_ret (zcq rfl _ _ (w.heap.size+2) (w.heap.size+3) _ _ rfl rfl rfl rfl HF.out.1 HF.out.2.1) rfl ?_
 unfold zej
 rw [HE.out.1,HE.out.2]
 exact ⟨k3,kt,rfl,HF.out.2.2.1,HF.out.2.2.2.1,HF.out.2.2.2.2⟩
end Go.Proofs.Ytkigcdmlkmcdcaa
