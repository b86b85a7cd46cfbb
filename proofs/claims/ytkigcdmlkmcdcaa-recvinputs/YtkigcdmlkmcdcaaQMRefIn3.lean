/- The document's Input: First, and the blocks ahead. -/
import Derived.Test.YtkigcdmlkmcdcaaQZ
import Derived.Test.YtkigcdmlkmcdcaaQMRefIn4
namespace Go.Proofs.Ytkigcdmlkmcdcaa
open Go.ChangeShapes Go.WideShapes Go.ChangeAt Go.RowKit
set_option linter.unusedVariables false
set_option linter.unusedSimpArgs false
set_option maxRecDepth 100000 in
set_option maxHeartbeats 16000000 in
theorem refIn3b (r4 ra:Pl.Rv) (k:Hd) (s:Seg) (ks:Hs) (w wc:World) (x:Int) (f2:Bool) (p:Nat) (hd:Tm) (L:List Tm) (b3:Bool) (aw:List (Int×Int)) (bl:List Tm) (u0 u1 u6 u7 u9 u10 u11 u12 u13 u15 u17 u18 u19 u20 u21 u22 u23 u24 u25 u26 u27 u28 u29 u30 u31 u32 u33 u34 u35 u36 u37 u38 u39 u40 u41 u42 u43 u44 u45 u46 u47 u48 u49 u50 u51 u52 u53 u54 u55 u56 u57 u58 u59 u60 u61 u62 u63 u64 u65 u66 u67 u68 u69 u70 u71 u72 u73 u74 u75 u76 u77 u78 u79 u80 u81 u82 u83 u84 u85 u86 u87 u88 u89 u90 u91 u92 u93 u94 u95 u96 u97 u98 u99 u100 u101 u102 u103 u104 u105 u106 u107 u108 u109 u110 u111 u112 u113 u114 u115 u116 u117 u118 u119 u120 u121 u122 u123 u124 u125 u126 u127 u128 u129 u130 u131 u132 u133 u134 u135 u136 u137 u138 u139 u140 u141 u142 u143 u144 u145 u146 u147 u148 u149 u150 u151 u152 u153 u154 u155 u156 u157 u158 u159 u160 u161 u162 u163 u164 u165 u166 u167 u168 u169 u170 u171 u172 u173 u174 u175 u176 u177 u178 u179 u180 u181 u182 u183 u184 u185 u186 u187 u188 u189 u190 u191 u192 u193 u194 u195 u196 u197:Value) (HOK:Hid (ra.Ok∧U32 ra.recent∧U32 ra.irs∧U32 ra.own∧SgAt w s ks)) (HW:Hid (RiS w wc r4 k s ks∧Box wc p 78 [.int .i64 hd.1,.int .i64 hd.2]))
 (HR:Hid (({ r4 with first:=L}:Pl.Rv)=ra)) (HL:Hid ((hd::r4.first).foldl (fun o a=>Pl.fstIn (Pl.spansL r4.s.l) a o) []=L∧L.length*16≤140737488351232))
 (HB3:Hid (b3=decide (ra.sacks=true∧0<s.da.length∧0≤x∧f2=false))) (HA:Hid ((if b3=true then [(s.sq,Pl.adI s.sq (s.da.length:Int))] else [])=aw∧refSk ra.irs ra.stamps ra.sacks aw ra.first=sackL ra.irs ra.stamps ra.sacks bl)) :
 Code.wp Try.prog ((Try.f15.body.bind (fromA 25)).getD .skip) (bodyPost Try.prog Try.f15 (zej w ra bl)) ⟨#[u0,u1,.pointer (some ⟨w.heap.size,0,none⟩),.pointer (some ⟨w.heap.size+1,0,none⟩),.pointer (some ⟨w.heap.size+2,0,none⟩),.pointer (some ⟨w.heap.size+3,0,none⟩),u6,u7,.int .i64 x,u9,u10,u11,u12,u13,.bool f2,u15,.pointer (some ⟨p,0,none⟩),u17,u18,u19,u20,u21,u22,u23,u24,u25,u26,u27,u28,u29,u30,u31,u32,u33,u34,u35,u36,u37,u38,u39,u40,u41,u42,u43,u44,u45,u46,u47,u48,u49,u50,u51,u52,u53,u54,u55,u56,u57,u58,u59,u60,u61,u62,u63,u64,u65,u66,u67,u68,u69,u70,u71,u72,u73,u74,u75,u76,u77,u78,u79,u80,u81,u82,u83,u84,u85,u86,u87,u88,u89,u90,u91,u92,u93,u94,u95,u96,u97,u98,u99,u100,u101,u102,u103,u104,u105,u106,u107,u108,u109,u110,u111,u112,u113,u114,u115,u116,u117,u118,u119,u120,u121,u122,u123,u124,u125,u126,u127,u128,u129,u130,u131,u132,u133,u134,u135,u136,u137,u138,u139,u140,u141,u142,u143,u144,u145,u146,u147,u148,u149,u150,u151,u152,u153,u154,u155,u156,u157,u158,u159,u160,u161,u162,u163,u164,u165,u166,u167,u168,u169,u170,u171,u172,u173,u174,u175,u176,u177,u178,u179,u180,u181,u182,u183,u184,u185,u186,u187,u188,u189,u190,u191,u192,u193,u194,u195,u196,u197],[]⟩ wc:=by
 conv=>arg 2;whnf
 have hSP:spnsW k.es=Pl.spansL r4.s.l:=by
  have e:r4.s=ra.s:=by rw [← HR.out]
  have ho:=HOK.out.1
  refine spns_fit HW.out.1.tk.les (lo:=ra.s.n) ho.n0 ?_ ?_
  · rw [e];exact ho.lat
  · rw [e];exact zfo ho
 have cF:=zgx k.fa k.fc r4.first k.la k.lc k.es hd wc (HW.out.1.fst.sp HW.out.1.frc) HW.out.1.tk.pcs _ hSP L HL.out.1
 have c11:=HW.out.1.box.cell 11 rfl
 have c2:=HW.out.1.box.cell 2 rfl
 have p0:=HW.out.2.cell 0 rfl
 have p1:=HW.out.2.cell 1 rfl
 clear hSP
 go_wp2_with fail
 refine cF.mono ?_
 rintro e w5 ⟨va,vc,rfl,hR5,hB5⟩
 clear cF c11 c2 p0 p1
 have b5:=(HW.out.1.later hB5).box
 have c11:=b5.cell 11 rfl
 have g11:=b5.frozen 11
 clear b5
 go_upto_region 26 with fail
 clear c11 g11
 obtain ⟨k5,hk5⟩:∃ k5,({ k with fa:=va,fc:=vc}:Hd)=k5:=⟨_,rfl⟩
 obtain ⟨Y,hY⟩:∃ Y,w5.setCell ⟨w.heap.size,11,none⟩ (.slice va L.length vc)=Y:=⟨_,rfl⟩
 have HS:Hid (RiS w Y ra k5 s ks):=by
  rw [← hY,← HR.out,← hk5]
  exact (HW.out.1.later hB5).put11 (hR5.mono HW.out.1.bel.size) HL.out.2
 rw [hY]
 clear hY hk5 hR5 hB5 HW HL HR
 obtain ⟨m,hm⟩:∃ m,s.da.length=m:=⟨_,rfl⟩
 have HM:Hid (s.da.length=m):=hm
 have d14:Y.cell? ⟨w.heap.size+1,14,none⟩=some (.slice ks.da m ks.dc):=by have:=HS.out.sg.cell 14 rfl;rw [← hm];exact this
 have c8:=HS.out.box.cell 8 rfl
 clear hm
 go_upto_region 27 with fail
 rename_i K1 hgo K2 hin
 go_cut [177] (fun v177 wx=>v177=.bool b3∧wx=Y)
 case first =>
  have h3:=HB3.out
  rw [HM.out] at h3
  rcases (by cases ra.sacks<;>simp:ra.sacks=true∨ra.sacks=false) with h1|h1
  · rw [h1] at c8 h3
    rcases Nat.eq_zero_or_pos m with h2|h2
    · have e1:decide ((0:Int)<(m:Int))=false:=decide_eq_false (by omega)
      have e2:decide (0<m)=false:=decide_eq_false (by omega)
      have e3:b3=false:=by rw [h3];apply decide_eq_false;omega
      subst e3
      clear h3
      go_wp2_with fail
      go_meet
      exact ⟨by simp,rfl⟩
    · have e1:decide ((0:Int)<(m:Int))=true:=decide_eq_true (by omega)
      have e2:decide (0<m)=true:=decide_eq_true h2
      rcases Int.lt_or_le x 0 with h4|h4
      · have e4:decide (0≤x)=false:=decide_eq_false (by omega)
        have e3:b3=false:=by rw [h3];apply decide_eq_false;omega
        subst e3
        clear h3
        go_wp2_with fail
        go_meet
        exact ⟨by simp,rfl⟩
      · have e4:decide (0≤x)=true:=decide_eq_true h4
        have e3:b3 = !f2:=by rw [h3];cases f2<;>simp [h2,h4]
        subst e3
        clear h3
        go_wp2_with fail
        go_meet
        exact ⟨by simp,rfl⟩
  · rw [h1] at c8 h3
    have e3:b3=false:=by rw [h3];simp
    subst e3
    clear h3
    go_wp2_with fail
    go_meet
    exact ⟨by simp,rfl⟩
 case rest =>
  obtain ⟨rfl,rfl⟩:=hcut
  clear c8
  have hal:aw.length≤1:=by rw [← HA.out.1];split<;>simp
  go_upto_if 177 with fail
  go_cut [17] (fun v17 wx=>∃ (ba:Option Addr) (bc:Nat),v17=.slice ba aw.length bc∧Hid (Below wc.heap.size wc wx∧RowB wx wc.heap.size ba aw.length bc aw∧∀ k,lies ba k→wc.heap.size≤k))
  case first =>
   cases b3 with
   | false =>
    have ha:[]=aw:=HA.out.1
    subst ha
    go_wp2_with fail
    go_meet
    exact ⟨none,0,rfl,Below.refl _ _,RowB.nil _ _,fun k ⟨_,_,e⟩=>by cases e⟩
   | true =>
    have ha:[(s.sq,Pl.adI s.sq (s.da.length:Int))]=aw:=HA.out.1
    have hsq:=HOK.out.2.2.2.2.sq
    have hdl:=HOK.out.2.2.2.2.data.1.1
    rw [HM.out] at ha hdl
    have HC:Hid (∀ W,Below wc.heap.size wc W→W.cell? ⟨w.heap.size+1,2,none⟩=some (.int .u32 s.sq)∧W.cell? ⟨w.heap.size+1,14,none⟩=some (.slice ks.da m ks.dc)):=fun W hW=>⟨(HS.out.sg.later hW).cell 2 rfl,by have:=(HS.out.sg.later hW).cell 14 rfl;rw [← HM.out];exact this⟩
    obtain ⟨q,hq⟩:∃ q,Pl.adI s.sq (m:Int)=q:=⟨_,rfl⟩
    have cA:∀ W,Calls Try.prog 38 #[.int .u32 s.sq,.int .i64 (m:Int)] W fun e w'=>e=.returned (.int .u32 q)∧w'=W:=fun W=>by have:=zbj s.sq (m:Int) hsq ⟨by omega,by omega⟩ W;rwa [hq] at this
    rw [hq] at ha
    subst ha
    clear hq hsq hdl HA d14
    go_upto_region 28 with fail
    go_region_held3 (fun W=>(W.cell? ⟨w.heap.size+1,2,none⟩=some (.int .u32 s.sq)∧W.cell? ⟨w.heap.size+1,14,none⟩=some (.slice ks.da m ks.dc))∧Below wc.heap.size wc W)
     (refine ⟨HC.out _ ?_,?_⟩<;>(repeat (first|with_reducible exact Below.refl _ _|with_reducible assumption|with_reducible refine Below.drew ?_|with_reducible refine zaa ?_ _)))
     (first
      | (go_at_call 38;refine (cA _).mono ?_;rintro e w' ⟨rfl,rfl⟩)
      | (refine zf8 rfl (.tmp 178) (.tmp 188) rfl wc.heap.size none 0 0 [] ⟨wc.heap.size,0,none⟩ (s.sq,q) rfl rfl (RowB.nil _ _) (by first|exact Nat.le_refl _|simp) (by first|exact zdo wc s.sq q|exact zdo wc.drew s.sq q) (by omega) ?_;intro va vc w2 hR hg hl;have hb2:Below wc.heap.size wc w2:=Below.on (by repeat (first|with_reducible exact Below.refl _ _|with_reducible assumption|with_reducible refine Below.drew ?_|with_reducible refine zaa ?_ _)) (zfb (Chg.of_grown hg (fun k e=>by cases e)))))
    all_goals (
     go_wp2_with fail
     go_meet
     refine ⟨va,vc,rfl,hb2,hR,fun k hk=>?_⟩
     rcases hl k hk with ⟨_,_,e⟩|h
     · cases e
     · first|exact Nat.le_trans (Nat.le_succ _) h|(simp at h;omega))
  case rest =>
   obtain ⟨ba,bc,rfl,HY⟩:=hcut
   refine hgo _ _ ?_
   exact refIn4 ra k5 s ks w _ _ ba bc aw bl _ _ _ _ _ _ _ _ _ _ _ _ _ _ _ _ _ _ _ _ _ _ _ _ _ _ _ _ _ _ _ _ _ _ _ _ _ _ _ _ _ _ _ _ _ _ _ _ _ _ _ _ _ _ _ _ _ _ _ _ _ _ _ _ _ _ _ _ _ _ _ _ _ _ _ _ _ _ _ _ _ _ _ _ _ _ _ _ _ _ _ _ _ _ _ _ _ _ _ _ _ _ _ _ _ _ _ _ _ _ _ _ _ _ _ _ _ _ _ _ _ _ _ _ _ _ _ _ _ _ _ _ _ _ _ _ _ _ _ _ _ _ _ _ _ _ _ _ _ _ _ _ _ _ _ _ _ _ _ _ _ _ _ _ _ _ _ _ _ _ _ _ _ _ _ _ _ _ _ _ _ _ _ _ _ _ _ _ _ _ _ _ _ HOK ⟨HS.out,HY.out.1,HY.out.2.1,HY.out.2.2,hal⟩ HA.out.2
end Go.Proofs.Ytkigcdmlkmcdcaa
namespace Go.Proofs.Ytkigcdmlkmcdcaa
open Go.ChangeShapes Go.WideShapes Go.ChangeAt Go.RowKit
set_option linter.unusedVariables false
set_option linter.unusedSimpArgs false
theorem RiS.copy {w wc w4 Y:World} {r r3:Pl.Rv} {k k4:Hd} {s:Seg} {ks:Hs} (H:RiS w wc r k s ks) (hK:Keep w.heap.size wc w4) (hT:TkAt w4 w.heap.size r3.s k4) (hf:k4.fa=k.fa∧k4.fc=k.fc) (hfr:r3.first=r.first) (hb:Below w4.heap.size w4 Y) {X:World} (hX:setAll Y w.heap.size 0 (rvL r3 k4)=X):RiS w X r3 k4 s ks:=by
 subst hX
 have b1:=(hK.box H.box (by decide)).later hb
 have h1:=hK.bel.size
 have h2:=H.bel.size
 refine ⟨b1.put _ rfl,((hK.box H.sg (by decide)).later hb).putAside _ _ _ (by omega),((hK.box H.zr (by decide)).later hb).putAside _ _ _ (by omega),((hK.box H.zs (by decide)).later hb).putAside _ _ _ (by omega),(hT.later hb).besideAll (by decide) (by decide) _ _ _ 0 b1,?_,by rw [hfr];exact H.frc,zaf (Nat.le_refl _) ((H.bel.trans hK.bel).trans (hb.mono (by omega)))⟩
 rw [hf.1,hf.2,hfr]
 exact zav ((show RowT w4 w.heap.size k.fa r.first.length k.fc r.first from hK.owns H.fst (by decide)).later hb) b1 (by decide) _ _
set_option maxRecDepth 100000 in
set_option maxHeartbeats 16000000 in
theorem refIn3 (r2 r3 r4 ra:Pl.Rv) (k:Hd) (s:Seg) (ks:Hs) (w wc:World) (x hi z:Int) (T:Pl.Rx×Bool) (hd:Tm) (L:List Tm) (b3:Bool) (aw:List (Int×Int)) (bl:List Tm) (u0 u1 u6 u7 u9 u10 u11 u12 u13 u14 u15 u16 u17 u18 u19 u20 u21 u22 u23 u24 u25 u26 u27 u28 u29 u30 u31 u32 u33 u34 u35 u36 u37 u38 u39 u40 u41 u42 u43 u44 u45 u46 u47 u48 u49 u50 u51 u52 u53 u54 u55 u56 u57 u58 u59 u60 u61 u62 u63 u64 u65 u66 u67 u68 u69 u70 u71 u72 u73 u74 u75 u76 u77 u78 u79 u80 u81 u82 u83 u84 u85 u86 u87 u88 u89 u90 u91 u92 u93 u94 u95 u96 u97 u98 u99 u100 u101 u102 u103 u104 u105 u106 u107 u108 u109 u110 u111 u112 u113 u114 u115 u116 u117 u118 u119 u120 u121 u122 u123 u124 u125 u126 u127 u128 u129 u130 u131 u132 u133 u134 u135 u136 u137 u138 u139 u140 u141 u142 u143 u144 u145 u146 u147 u148 u149 u150 u151 u152 u153 u154 u155 u156 u157 u158 u159 u160 u161 u162 u163 u164 u165 u166 u167 u168 u169 u170 u171 u172 u173 u174 u175 u176 u177 u178 u179 u180 u181 u182 u183 u184 u185 u186 u187 u188 u189 u190 u191 u192 u193 u194 u195 u196 u197:Value) (HOK:Hid (ra.Ok∧U32 ra.recent∧U32 ra.irs∧U32 ra.own∧SgAt w s ks)) (HS:Hid (RiS w wc r2 k s ks))
 (HP:Hid (lowB r2∧r2.s.ok∧Pl.below r2.s r2.limit∧(if 0≤r2.fin then Pl.minJ r2.limit r2.fin else r2.limit)=hi∧Pl.takeGo r2.s.n hi s.da x r2.s false=T∧Pl.lastGo T.1.l s.da x (-1)=z)) (HX:Hid (-1125899906842624≤x∧x≤1125899906842624∧-1≤z∧z≤1125899906842624))
 (HR3:Hid (({ r2 with s:=T.1}:Pl.Rv)=r3∧({ r3 with dn:=r3.fin==r3.s.n}:Pl.Rv)=r4∧({ r4 with first:=L}:Pl.Rv)=ra)) (HL:Hid ((if z<0 then (0,0) else (z,z+1))=hd∧(hd::r4.first).foldl (fun o a=>Pl.fstIn (Pl.spansL r4.s.l) a o) []=L∧L.length*16≤140737488351232))
 (HB3:Hid (b3=decide (ra.sacks=true∧0<s.da.length∧0≤x∧T.2=false))) (HA:Hid ((if b3=true then [(s.sq,Pl.adI s.sq (s.da.length:Int))] else [])=aw∧refSk ra.irs ra.stamps ra.sacks aw ra.first=sackL ra.irs ra.stamps ra.sacks bl)) :
 Code.wp Try.prog ((Try.f15.body.bind (fromA 19)).getD .skip) (bodyPost Try.prog Try.f15 (zej w ra bl)) ⟨#[u0,u1,.pointer (some ⟨w.heap.size,0,none⟩),.pointer (some ⟨w.heap.size+1,0,none⟩),.pointer (some ⟨w.heap.size+2,0,none⟩),.pointer (some ⟨w.heap.size+3,0,none⟩),u6,u7,.int .i64 x,u9,u10,u11,u12,u13,u14,u15,u16,u17,u18,u19,u20,u21,u22,u23,u24,u25,u26,u27,u28,u29,u30,u31,u32,u33,u34,u35,u36,u37,u38,u39,u40,u41,u42,u43,u44,u45,u46,u47,u48,u49,u50,u51,u52,u53,u54,u55,u56,u57,u58,u59,u60,u61,u62,u63,u64,u65,u66,u67,u68,u69,u70,u71,u72,u73,u74,u75,u76,u77,u78,u79,u80,u81,u82,u83,u84,u85,u86,u87,u88,u89,u90,u91,u92,u93,u94,u95,u96,u97,u98,u99,u100,u101,u102,u103,u104,u105,u106,u107,u108,u109,u110,u111,u112,u113,u114,u115,u116,u117,u118,u119,u120,u121,u122,u123,u124,u125,u126,u127,u128,u129,u130,u131,u132,u133,u134,u135,u136,u137,u138,u139,u140,u141,u142,u143,u144,u145,u146,u147,u148,u149,u150,u151,u152,u153,u154,u155,u156,u157,u158,u159,u160,u161,u162,u163,u164,u165,u166,u167,u168,u169,u170,u171,u172,u173,u174,u175,u176,u177,u178,u179,u180,u181,u182,u183,u184,u185,u186,u187,u188,u189,u190,u191,u192,u193,u194,u195,u196,u197],[]⟩ wc:=by
 conv=>arg 2;whnf
 have cT:=refTake_any r2 k w.heap.size w wc rfl HS.out.bel HS.out.tk x ⟨HX.out.1,HX.out.2.1⟩ s.da ks.da ks.dc HOK.out.2.2.2.2.data HP.out.1 HP.out.2.1 HP.out.2.2.1 hi HP.out.2.2.2.1 T HP.out.2.2.2.2.1 z HP.out.2.2.2.2.2
 obtain ⟨f2,hf2⟩:∃ f,T.2=f:=⟨_,rfl⟩
 rw [hf2,HR3.out.1] at cT
 have HF2:Hid (T.2=f2):=hf2
 obtain ⟨m,hm⟩:∃ m,s.da.length=m:=⟨_,rfl⟩
 rw [hm] at cT
 have HM:Hid (s.da.length=m):=hm
 have d14:wc.cell? ⟨w.heap.size+1,14,none⟩=some (.slice ks.da m ks.dc):=by have:=HS.out.sg.cell 14 rfl;rw [← hm];exact this
 obtain ⟨c0,c1,c2,c3,c4,c5,c6,c7,c8,c9,c10,c11,c12,c13,c14⟩:=Box.c15 HS.out.box
 clear hf2 hm
 go_wp2_with fail
 refine cT.mono ?_
 rintro e w4 ⟨k4,rfl,hT4,hf4,hK4⟩
 have HF4:Hid (k4.fa=k.fa∧k4.fc=k.fc):=hf4
 clear c0 c1 c2 c3 c4 c5 c6 c7 c8 c9 c10 c11 c12 c13 c14 d14 cT hf4
 go_upto_region 20 with fail
 obtain ⟨Y,hY⟩:∃ Y,w4.alloc (.cells #[.int .i64 r3.s.n,.slice k4.ua r3.s.u.length k4.uc,.slice k4.la k4.es.length k4.lc,.int .i64 r3.cap,.int .i64 r3.shift,.int .i64 r3.edge,.int .u32 r3.recent,.bool r3.stamps,.bool r3.sacks,.int .i64 r3.fin,.bool r3.dn,.slice k4.fa r3.first.length k4.fc,.int .u32 r3.irs,.int .u32 r3.own,.bool r3.stamp] 27)=Y:=⟨_,rfl⟩
 have bY:Below w4.heap.size w4 Y:=by rw [← hY];exact zaa (Below.refl _ _) _
 have y1:Box Y w4.heap.size 27 (rvL r3 k4):=by rw [← hY];exact Box.new w4 27 (rvL r3 k4)
 rw [hY]
 clear hY
 refine zgr rfl rfl rfl rfl rfl rfl r3 k4 (gs:=w4.heap.size) (gd:=w.heap.size) rfl rfl rfl y1 rfl ((hK4.box HS.out.box (by decide)).later bY) ?_
 intro X hX
 have HS3:Hid (RiS w X r3 k4 s ks):=by
  have h3:=HR3.out.1
  exact HS.out.copy hK4 (by rw [← h3];exact hT4) HF4.out (by rw [← h3]) bY hX
 clear hX y1 bY hT4 hK4 HF4 HS
 simp only [Act.put,qA,qZ,qS]
 have c9:=HS3.out.box.cell 9 rfl
 have c0:=HS3.out.box.cell 0 rfl
 have g10:=HS3.out.box.frozen 10
 have c10:=HS3.out.box.cell 10 rfl
 obtain ⟨dn,hdn⟩:∃ b,(r3.fin==r3.s.n)=b:=⟨_,rfl⟩
 go_upto_region 22 with fail
 obtain ⟨X4,hX4⟩:∃ X4,X.setCell ⟨w.heap.size,10,none⟩ (.bool dn)=X4:=⟨_,rfl⟩
 have HS4:Hid (RiS w X4 r4 k4 s ks):=by
  have h4:=HR3.out.2.1
  rw [hdn] at h4
  rw [← hX4,← h4]
  exact HS3.out.put1 10 (.bool dn) rfl rfl rfl
 rw [hX4]
 clear hX4 c9 c0 g10 c10 hdn HS3
 go_upto_region 23 with fail
 rename_i K1 hgo K2 hin
 obtain ⟨P,hP⟩:∃ P,X4.alloc (.cells #[.int .i64 0,.int .i64 0] 78)=P:=⟨_,rfl⟩
 have HP5:Hid (RiS w X4 r4 k4 s ks∧Box P X4.heap.size 78 [.int .i64 0,.int .i64 0]∧Below X4.heap.size X4 P):=by
  rw [← hP]
  exact ⟨HS4.out,Box.new X4 78 [.int .i64 0,.int .i64 0],zaa (Below.refl _ _) _⟩
 rw [hP]
 clear HS4 hP
 go_upto_if 150 with fail
 go_cut [] (fun wx=>Hid (RiS w wx r4 k4 s ks∧Box wx X4.heap.size 78 [.int .i64 hd.1,.int .i64 hd.2]))
 case first =>
  rcases Int.lt_or_le z 0 with hz|hz
  · have h1:hd=(0,0):=by rw [← HL.out.1,if_pos hz]
    have hz2:decide (0≤z)=false:=decide_eq_false (by omega)
    go_wp2_with fail
    go_meet
    rw [h1]
    exact ⟨HP5.out.1.later HP5.out.2.2,HP5.out.2.1⟩
  · have h1:hd=(z,z+1):=by rw [← HL.out.1,if_neg (by omega)]
    have hz2:decide (0≤z)=true:=decide_eq_true hz
    have hzb:=HX.out.2.2.2
    have p0:=HP5.out.2.1.cell 0 rfl
    have p1:=HP5.out.2.1.cell 1 rfl
    have q0:=HP5.out.2.1.frozen 0
    have q1:=HP5.out.2.1.frozen 1
    go_wp2_with fail
    go_meet
    rw [h1]
    exact ⟨HP5.out.1.later (zar (zar HP5.out.2.2 _ _ _ (Nat.le_refl _)) _ _ _ (Nat.le_refl _)),(HP5.out.2.1.set 0 _).set 1 _⟩
 case rest =>
  refine hgo _ _ ?_
  exact refIn3b r4 ra k4 s ks w _ x f2 X4.heap.size hd L b3 aw bl _ _ _ _ _ _ _ _ _ _ _ _ _ _ _ _ _ _ _ _ _ _ _ _ _ _ _ _ _ _ _ _ _ _ _ _ _ _ _ _ _ _ _ _ _ _ _ _ _ _ _ _ _ _ _ _ _ _ _ _ _ _ _ _ _ _ _ _ _ _ _ _ _ _ _ _ _ _ _ _ _ _ _ _ _ _ _ _ _ _ _ _ _ _ _ _ _ _ _ _ _ _ _ _ _ _ _ _ _ _ _ _ _ _ _ _ _ _ _ _ _ _ _ _ _ _ _ _ _ _ _ _ _ _ _ _ _ _ _ _ _ _ _ _ _ _ _ _ _ _ _ _ _ _ _ _ _ _ _ _ _ _ _ _ _ _ _ _ _ _ _ _ _ _ _ _ _ _ _ _ _ _ _ _ _ _ _ _ _ _ _ HOK hcut HR3.out.2.2 HL.out.2 (by have:=HB3.out;rw [HF2.out] at this;exact this) HA
end Go.Proofs.Ytkigcdmlkmcdcaa
