/- The document's Input: the end. -/
import Derived.Test.YtkigcdmlkmcdcaaQZ
import Derived.Test.YtkigcdmlkmcdcaaQMRefIn3
namespace Go.Proofs.Ytkigcdmlkmcdcaa
open Go.ChangeShapes Go.WideShapes Go.ChangeAt Go.RowKit
set_option linter.unusedVariables false
set_option linter.unusedSimpArgs false
theorem end_of {r:Pl.Rv} {g:Pl.Sg} {k:Hd} {w:World} {B:Nat} (h:r.Ok) (ht:TkAt w B r.s k):k.es.length=0∧Pl.lateEnd r.s=r.s.n∨∃ m e,k.es.length=m+1∧k.es[m]? = some e∧e.pc∈r.s.l∧Pl.lateEnd r.s=Pl.pend e.pc:=by
 by_cases h0:k.es.length=0
 · left
   have:r.s.l=[]:=by rw [← ht.les,List.eq_nil_of_length_eq_zero h0];rfl
   refine ⟨h0,?_⟩
   unfold Pl.lateEnd;rw [this];rfl
 · right
   obtain ⟨m,hm⟩:∃ m,k.es.length=m+1:=⟨k.es.length-1,by omega⟩
   obtain ⟨e,he⟩:∃ e,k.es[m]? = some e:=⟨_,List.getElem?_eq_getElem (by omega)⟩
   refine ⟨m,e,hm,he,?_,?_⟩
   · rw [← ht.les];exact List.mem_map.2 ⟨e,List.mem_of_getElem? he,rfl⟩
   · unfold Pl.lateEnd
     rw [← ht.les,List.getLast?_map,List.getLast?_eq_getElem?,hm]
     simp [he]
theorem into_low (r:Pl.Rv) (g:Pl.Sg):(Pl.intoR r g).irs=r.irs∧(Pl.intoR r g).own=r.own∧(Pl.intoR r g).stamps=r.stamps∧(Pl.intoR r g).sacks=r.sacks∧((Pl.intoR r g).recent=r.recent∨(Pl.intoR r g).recent=g.val):=by
 show (Pl.stampR r g).irs=r.irs∧(Pl.stampR r g).own=r.own∧(Pl.stampR r g).stamps=r.stamps∧(Pl.stampR r g).sacks=r.sacks∧((Pl.stampR r g).recent=r.recent∨(Pl.stampR r g).recent=g.val)
 unfold Pl.stampR
 split
 · exact ⟨rfl,rfl,rfl,rfl,.inr rfl⟩
 · exact ⟨rfl,rfl,rfl,rfl,.inl rfl⟩
theorem into_parts {r:Pl.Rv} {g:Pl.Sg} (h:r.Ok) {T:Pl.Rx×Bool} (hT:Pl.takeR r g=T) {z:Int} (hz:Pl.lastGo T.1.l g.ds (Pl.offI r g) (-1)=z) (hl:g.ds.length≤140737488351232) :
 lowB (endR r g)∧(endR r g).s.ok∧Pl.below (endR r g).s (endR r g).limit∧(if 0≤(endR r g).fin then Pl.minJ (endR r g).limit (endR r g).fin else (endR r g).limit)=Pl.hiI r g∧Pl.takeGo (endR r g).s.n (Pl.hiI r g) g.ds (Pl.offI r g) (endR r g).s false=T∧(-1≤z∧z≤1125899906842624) ∧
  (Pl.intoR r g).first.length*16≤140737488351232:=by
 obtain ⟨e1,e2,_⟩:=zcc r g
 have es:(endR r g).s=r.s:=e1
 have el:(endR r g).limit=r.limit:=by
  unfold Pl.Rv.limit Pl.Rv.reach endR
  simp only [e1,e2]
 have ho:=(Pl.into_ok (g:=g) h).1
 refine ⟨end_low h,by rw [es];exact h.lat,?_,?_,?_,?_,?_⟩
 · rw [es,el]
   exact Pl.below_of (Pl.Ok.reach h).2.1 h.lim
 · rw [el];rfl
 · rw [es];exact hT
 · have hb:=zgf (g:=g) h
   rcases zfr (l:=T.1.l) (ds:=g.ds) (x:=Pl.offI r g) (a:=-1) with ⟨q,_⟩|⟨q1,q2,q3,_⟩
   · rw [hz] at q;omega
   · rw [hz] at q1 q2 q3
     have q4:0≤z:=by
      cases hh:Pl.hasL T.1.l z with
      | none=>exact absurd hh q3
      | some v =>
       obtain ⟨p,hp,p1,_⟩:=Pl.has_mem hh
       have hp':p∈(Pl.intoR r g).s.l:=by show p∈(Pl.takeR r g).1.l;rw [hT];exact hp
       have h5:=zbd ho.lat p hp'
       have h6:=ho.n0
       omega
     omega
 · have h2:(Pl.intoR r g).first.length≤(Pl.spansL (Pl.intoR r g).s.l).length:=zc9 ho.nod ho.fst
   have h3:(Pl.spansL (Pl.intoR r g).s.l).length=(Pl.intoR r g).s.l.length:=by unfold Pl.spansL;rw [List.length_map]
   have h4:=zfq ho.lat ho.lim
   have h5:=Pl.Ok.reach ho
   have h6:=ho.cm
   have h7:=Pl.bot_le (Pl.intoR r g).s
   have h8:(Pl.intoR r g).reach=(Pl.intoR r g).s.bot+(Pl.intoR r g).cap:=rfl
   have h9:(Pl.intoR r g).s.l=[]→(Pl.intoR r g).s.l.length=0:=fun e=>by rw [e];rfl
   rcases h4 with h4|h4
   · have:=h9 h4;omega
   · omega
set_option maxRecDepth 100000 in
set_option maxHeartbeats 16000000 in
theorem refIn2c (r r1 ra:Pl.Rv) (k:Hd) (s:Seg) (ks:Hs) (w wc:World) (x E le:Int) (bl:List Tm) (u0 u1 u6 u7 u10 u11 u13 u14 u15 u16 u17 u18 u19 u20 u21 u22 u23 u24 u25 u26 u27 u28 u29 u30 u31 u32 u33 u34 u35 u36 u37 u38 u39 u40 u41 u42 u43 u44 u45 u46 u47 u48 u49 u50 u51 u52 u53 u54 u55 u56 u57 u58 u59 u60 u61 u62 u63 u64 u65 u66 u67 u68 u69 u70 u71 u72 u73 u74 u75 u76 u77 u78 u79 u80 u81 u82 u83 u84 u85 u86 u87 u88 u89 u90 u91 u92 u93 u94 u95 u96 u97 u98 u99 u100 u101 u102 u103 u104 u105 u106 u107 u108 u109 u110 u111 u112 u113 u114 u115 u116 u117 u118 u119 u120 u121 u122 u123 u124 u125 u126 u127 u128 u129 u130 u131 u132 u133 u134 u135 u136 u137 u138 u139 u140 u141 u142 u143 u144 u145 u146 u147 u148 u149 u150 u151 u152 u153 u154 u155 u156 u157 u158 u159 u160 u161 u162 u163 u164 u165 u166 u167 u168 u169 u170 u171 u172 u173 u174 u175 u176 u177 u178 u179 u180 u181 u182 u183 u184 u185 u186 u187 u188 u189 u190 u191 u192 u193 u194 u195 u196 u197:Value) (HOK:Hid (r.Ok∧U32 r.recent∧U32 r.irs∧U32 r.own∧SgAt w s ks)) (HS:Hid (RiS w wc r1 k s ks)) (HX:Hid (Pl.offI r (segOf s)=x∧x+(s.da.length:Int)=E∧Pl.intoR r (segOf s)=ra∧blkL r (segOf s)=bl)) (HR1:Hid (Pl.stampR r (segOf s)=r1)) (HLE:Hid (Pl.lateEnd r.s=le)) :
 Code.wp Try.prog ((Try.f15.body.bind (fromA 17)).getD .skip) (bodyPost Try.prog Try.f15 (zej w ra bl)) ⟨#[u0,u1,.pointer (some ⟨w.heap.size,0,none⟩),.pointer (some ⟨w.heap.size+1,0,none⟩),.pointer (some ⟨w.heap.size+2,0,none⟩),.pointer (some ⟨w.heap.size+3,0,none⟩),u6,u7,.int .i64 x,.int .i64 E,u10,u11,.int .i64 le,u13,u14,u15,u16,u17,u18,u19,u20,u21,u22,u23,u24,u25,u26,u27,u28,u29,u30,u31,u32,u33,u34,u35,u36,u37,u38,u39,u40,u41,u42,u43,u44,u45,u46,u47,u48,u49,u50,u51,u52,u53,u54,u55,u56,u57,u58,u59,u60,u61,u62,u63,u64,u65,u66,u67,u68,u69,u70,u71,u72,u73,u74,u75,u76,u77,u78,u79,u80,u81,u82,u83,u84,u85,u86,u87,u88,u89,u90,u91,u92,u93,u94,u95,u96,u97,u98,u99,u100,u101,u102,u103,u104,u105,u106,u107,u108,u109,u110,u111,u112,u113,u114,u115,u116,u117,u118,u119,u120,u121,u122,u123,u124,u125,u126,u127,u128,u129,u130,u131,u132,u133,u134,u135,u136,u137,u138,u139,u140,u141,u142,u143,u144,u145,u146,u147,u148,u149,u150,u151,u152,u153,u154,u155,u156,u157,u158,u159,u160,u161,u162,u163,u164,u165,u166,u167,u168,u169,u170,u171,u172,u173,u174,u175,u176,u177,u178,u179,u180,u181,u182,u183,u184,u185,u186,u187,u188,u189,u190,u191,u192,u193,u194,u195,u196,u197],[]⟩ wc:=by
 conv=>arg 2;whnf
 have hE:Hid (r1.s=r.s∧r1.cap=r.cap∧r1.first=r.first∧r1.shift=r.shift∧r1.fin=r.fin):=by rw [← HR1.out];exact zcc r (segOf s)
 have h1ok:r1.Ok:=by rw [← HR1.out];exact stamp_ok HOK.out.1
 have hlim:r1.limit=r.limit:=by
  obtain ⟨e1,e2,_⟩:=hE.out
  unfold Pl.Rv.limit Pl.Rv.reach
  rw [e1,e2]
 obtain ⟨lim,hli⟩:∃ l,r.limit=l:=⟨_,rfl⟩
 have cL:∀ W,Calls Try.prog 41 #[.agg #[.int .i64 r1.s.n,.slice k.ua r1.s.u.length k.uc,.slice k.la k.es.length k.lc,.int .i64 r1.cap,.int .i64 r1.shift,.int .i64 r1.edge,.int .u32 r1.recent,.bool r1.stamps,.bool r1.sacks,.int .i64 r1.fin,.bool r1.dn,.slice k.fa r1.first.length k.fc,.int .u32 r1.irs,.int .u32 r1.own,.bool r1.stamp]] W fun e w'=>e=.returned (.int .i64 lim)∧Below W.heap.size W w':=fun W=>by have:=zcs r1 k W (ok_lowB h1ok);rwa [hlim,hli] at this
 obtain ⟨fi,hfi⟩:∃ f,r1.fin=f:=⟨_,rfl⟩
 obtain ⟨bt,hbt⟩:∃ b,bits BinOp.and IntKind.i64 s.fl 1=b:=⟨_,rfl⟩
 obtain ⟨b2,hb2⟩:∃ b,decide (bt≠0∧fi<0∧le≤E∧E≤lim)=b:=⟨_,rfl⟩
 obtain ⟨r2,hr2⟩:∃ r2,endR r (segOf s)=r2:=⟨_,rfl⟩
 have HF:Hid (decide (bt≠0∧fi<0∧le≤E∧E≤lim)=b2∧r.limit=lim∧r1.fin=fi∧bits BinOp.and IntKind.i64 s.fl 1=bt∧endR r (segOf s)=r2):=⟨hb2,hli,hfi,hbt,hr2⟩
 clear h1ok hlim hli hb2 hr2
 simp only [List.append_eq,List.cons_append,List.nil_append]
 go_upto_region 17 with fail
 rename_i K1 hgo K2 hin
 go_cut [129] (fun v129 wx=>v129=.bool b2∧Hid (RiS w wx r1 k s ks))
 case first =>
  have h3:=HF.out.1
  have d4:=HS.out.sg.cell 4 rfl
  have c9':=HS.out.box.cell 9 rfl
  have c9:wc.cell? ⟨w.heap.size,9,none⟩=some (.int .i64 fi):=by rw [← hfi];exact c9'
  clear c9'
  by_cases q1:bt=0
  · have e1:(bt != 0)=false:=by simp [q1]
    have e3:b2=false:=by rw [← h3];simp [q1]
    subst e3
    clear h3 hfi q1
    go_wp2_with fail
    go_meet
    exact ⟨by simp,HS.out⟩
  · have e1:(bt != 0)=true:=by simp [q1]
    rcases Int.lt_or_le fi 0 with q2|q2
    · have e2:decide (fi<0)=true:=decide_eq_true q2
      rcases Int.lt_or_le E le with q3|q3
      · have e3:b2=false:=by rw [← h3];apply decide_eq_false;omega
        have e4:decide (le≤E)=false:=decide_eq_false (by omega)
        subst e3
        clear h3 hfi q1
        go_wp2_with fail
        go_meet
        exact ⟨by simp,HS.out⟩
      · have e4:decide (le≤E)=true:=decide_eq_true q3
        have e3:decide (E≤lim)=b2:=by rw [← h3];simp [q1,q2,q3]
        clear h3 hfi q1 c9
        obtain ⟨c0,c1,c2,c3,c4,c5,c6,c7,c8,c9,c10,c11,c12,c13,c14⟩:=Box.c15 HS.out.box
        have hfi2:r1.fin=fi:=HF.out.2.2.1
        simp only [hfi2] at cL
        go_wp2_with fail
        refine (cL _).mono ?_
        rintro e w1 ⟨rfl,hB⟩
        clear c0 c1 c2 c3 c4 c5 c6 c7 c8 c9 c10 c11 c12 c13 c14
        go_wp2_with fail
        go_meet
        exact ⟨by simp [e3],HS.out.later hB⟩
    · have e2:decide (fi<0)=false:=decide_eq_false (by omega)
      have e3:b2=false:=by rw [← h3];apply decide_eq_false;omega
      subst e3
      clear h3 hfi q1
      go_wp2_with fail
      go_meet
      exact ⟨by simp,HS.out⟩
 case rest =>
  obtain ⟨rfl,HS1⟩:=hcut
  clear HS hfi hbt cL
  go_upto_if 129 with fail
  go_cut [] (fun wx=>Hid (RiS w wx r2 k s ks))
  case first =>
   have h3:=HF.out.1
   have h4:=HF.out.2.2.2.2
   have hg:Pl.finI r (segOf s)=if b2=true then E else fi:=by
    unfold Pl.finI
    rw [HX.out.1,HLE.out,show (segOf s).ds=s.da from rfl,HX.out.2.1,HF.out.2.1,← hE.out.2.2.2.2,HF.out.2.2.1,← h3]
    have:(segOf s).isFin=decide (bt≠0):=by rw [← HF.out.2.2.2.1];rfl
    rw [this]
    simp only [decide_eq_true_eq]
   unfold endR at h4
   rw [HR1.out,hg] at h4
   cases b2 with
   | false =>
    rw [if_neg (by simp),← HF.out.2.2.1] at h4
    clear hg h3
    go_wp2_with fail
    go_meet
    rw [← h4]
    exact HS1.out
   | true =>
    rw [if_pos rfl] at h4
    have c9:=HS1.out.box.cell 9 rfl
    have g9:=HS1.out.box.frozen 9
    clear hg h3
    go_wp2_with fail
    go_meet
    rw [← h4]
    exact HS1.out.put1 9 (.int .i64 E) rfl rfl rfl
  case rest =>
   refine hgo _ _ ?_
   have hx:=HX.out.1
   obtain ⟨p1,p2,p3,p4,p5,p6,p7⟩:=into_parts (g:=segOf s) HOK.out.1 rfl rfl (HOK.out.2.2.2.2.data.1.1)
   obtain ⟨i1,i2,i3,i4,i5⟩:=into_low r (segOf s)
   have hb:=zgf (g:=segOf s) HOK.out.1
   have hk:=ahead_sk (g:=segOf s) HOK.out.1 HOK.out.2.2.2.2.sq HOK.out.2.2.1 rfl
   rw [hx] at p5 p6 hb hk
   have hfs:(endR r (segOf s)).first=r.first:=(zcc r (segOf s)).2.2.1
   have hfd:∀ l,Pl.headSpan l s.da x=if Pl.lastGo l s.da x (-1)<0 then (0,0) else (Pl.lastGo l s.da x (-1),Pl.lastGo l s.da x (-1)+1):=fun l=>rfl
   have hin2:(Pl.intoR r (segOf s)).first=Pl.firstsL (Pl.takeR r (segOf s)).1.l (Pl.headSpan (Pl.takeR r (segOf s)).1.l s.da x::r.first):=by rw [← hx];rfl
   rw [← i1,← i3,← i4] at hk
   rw [HX.out.2.2.1] at i1 i2 i3 i4 i5 p7 hk hin2
   refine refIn3 r2 { r2 with s:=(Pl.takeR r (segOf s)).1} { r2 with s:=(Pl.takeR r (segOf s)).1,dn:=r2.fin==(Pl.takeR r (segOf s)).1.n} ra k s ks w _ x (Pl.hiI r (segOf s)) (Pl.lastGo (Pl.takeR r (segOf s)).1.l s.da x (-1)) (Pl.takeR r (segOf s)) (if Pl.lastGo (Pl.takeR r (segOf s)).1.l s.da x (-1)<0 then (0,0) else (Pl.lastGo (Pl.takeR r (segOf s)).1.l s.da x (-1),Pl.lastGo (Pl.takeR r (segOf s)).1.l s.da x (-1)+1)) ra.first (decide (ra.sacks=true∧0<s.da.length∧0≤x∧(Pl.takeR r (segOf s)).2=false)) (if decide (ra.sacks=true∧0<s.da.length∧0≤x∧(Pl.takeR r (segOf s)).2=false)=true then [(s.sq,Pl.adI s.sq (s.da.length:Int))] else []) bl _ _ _ _ _ _ _ _ _ _ _ _ _ _ _ _ _ _ _ _ _ _ _ _ _ _ _ _ _ _ _ _ _ _ _ _ _ _ _ _ _ _ _ _ _ _ _ _ _ _ _ _ _ _ _ _ _ _ _ _ _ _ _ _ _ _ _ _ _ _ _ _ _ _ _ _ _ _ _ _ _ _ _ _ _ _ _ _ _ _ _ _ _ _ _ _ _ _ _ _ _ _ _ _ _ _ _ _ _ _ _ _ _ _ _ _ _ _ _ _ _ _ _ _ _ _ _ _ _ _ _ _ _ _ _ _ _ _ _ _ _ _ _ _ _ _ _ _ _ _ _ _ _ _ _ _ _ _ _ _ _ _ _ _ _ _ _ _ _ _ _ _ _ _ _ _ _ _ _ _ _ _ _ _ _ _ _ _ _ _ _ _ _ ?_ hcut ?_ ?_ ?_ ?_ ?_ ?_
   · refine ⟨by rw [← HX.out.2.2.1];exact (Pl.into_ok HOK.out.1).1,?_,by rw [i1];exact HOK.out.2.2.1,by rw [i2];exact HOK.out.2.2.2.1,HOK.out.2.2.2.2⟩
     rcases i5 with e|e
     · rw [e];exact HOK.out.2.1
     · rw [e];exact HOK.out.2.2.2.2.va
   · rw [← HF.out.2.2.2.2];exact ⟨p1,p2,p3,p4,p5,rfl⟩
   · exact ⟨by omega,by omega,p6.1,p6.2⟩
   · refine ⟨rfl,rfl,?_⟩
     rw [← HF.out.2.2.2.2,← HX.out.2.2.1]
     rfl
   · refine ⟨rfl,?_,p7⟩
     rw [← HF.out.2.2.2.2,hin2,hfd]
     simp only [hfs]
     rfl
   · rfl
   · refine ⟨rfl,?_⟩
     rw [← HX.out.2.2.2,← hk]
     rfl
end Go.Proofs.Ytkigcdmlkmcdcaa
namespace Go.Proofs.Ytkigcdmlkmcdcaa
open Go.ChangeShapes Go.WideShapes Go.ChangeAt Go.RowKit
set_option linter.unusedVariables false
set_option linter.unusedSimpArgs false
set_option maxRecDepth 100000 in
set_option maxHeartbeats 16000000 in
theorem refIn2b (r r1 ra:Pl.Rv) (k:Hd) (s:Seg) (ks:Hs) (w wc:World) (x E:Int) (bl:List Tm) (u0 u1 u6 u7 u10 u11 u12 u13 u14 u15 u16 u17 u18 u19 u20 u21 u22 u23 u24 u25 u26 u27 u28 u29 u30 u31 u32 u33 u34 u35 u36 u37 u38 u39 u40 u41 u42 u43 u44 u45 u46 u47 u48 u49 u50 u51 u52 u53 u54 u55 u56 u57 u58 u59 u60 u61 u62 u63 u64 u65 u66 u67 u68 u69 u70 u71 u72 u73 u74 u75 u76 u77 u78 u79 u80 u81 u82 u83 u84 u85 u86 u87 u88 u89 u90 u91 u92 u93 u94 u95 u96 u97 u98 u99 u100 u101 u102 u103 u104 u105 u106 u107 u108 u109 u110 u111 u112 u113 u114 u115 u116 u117 u118 u119 u120 u121 u122 u123 u124 u125 u126 u127 u128 u129 u130 u131 u132 u133 u134 u135 u136 u137 u138 u139 u140 u141 u142 u143 u144 u145 u146 u147 u148 u149 u150 u151 u152 u153 u154 u155 u156 u157 u158 u159 u160 u161 u162 u163 u164 u165 u166 u167 u168 u169 u170 u171 u172 u173 u174 u175 u176 u177 u178 u179 u180 u181 u182 u183 u184 u185 u186 u187 u188 u189 u190 u191 u192 u193 u194 u195 u196 u197:Value) (HOK:Hid (r.Ok∧U32 r.recent∧U32 r.irs∧U32 r.own∧SgAt w s ks)) (HS:Hid (RiS w wc r1 k s ks)) (HX:Hid (Pl.offI r (segOf s)=x∧x+(s.da.length:Int)=E∧Pl.intoR r (segOf s)=ra∧blkL r (segOf s)=bl)) (HR1:Hid (Pl.stampR r (segOf s)=r1)) :
 Code.wp Try.prog ((Try.f15.body.bind (fromA 14)).getD .skip) (bodyPost Try.prog Try.f15 (zej w ra bl)) ⟨#[u0,u1,.pointer (some ⟨w.heap.size,0,none⟩),.pointer (some ⟨w.heap.size+1,0,none⟩),.pointer (some ⟨w.heap.size+2,0,none⟩),.pointer (some ⟨w.heap.size+3,0,none⟩),u6,u7,.int .i64 x,.int .i64 E,u10,u11,u12,u13,u14,u15,u16,u17,u18,u19,u20,u21,u22,u23,u24,u25,u26,u27,u28,u29,u30,u31,u32,u33,u34,u35,u36,u37,u38,u39,u40,u41,u42,u43,u44,u45,u46,u47,u48,u49,u50,u51,u52,u53,u54,u55,u56,u57,u58,u59,u60,u61,u62,u63,u64,u65,u66,u67,u68,u69,u70,u71,u72,u73,u74,u75,u76,u77,u78,u79,u80,u81,u82,u83,u84,u85,u86,u87,u88,u89,u90,u91,u92,u93,u94,u95,u96,u97,u98,u99,u100,u101,u102,u103,u104,u105,u106,u107,u108,u109,u110,u111,u112,u113,u114,u115,u116,u117,u118,u119,u120,u121,u122,u123,u124,u125,u126,u127,u128,u129,u130,u131,u132,u133,u134,u135,u136,u137,u138,u139,u140,u141,u142,u143,u144,u145,u146,u147,u148,u149,u150,u151,u152,u153,u154,u155,u156,u157,u158,u159,u160,u161,u162,u163,u164,u165,u166,u167,u168,u169,u170,u171,u172,u173,u174,u175,u176,u177,u178,u179,u180,u181,u182,u183,u184,u185,u186,u187,u188,u189,u190,u191,u192,u193,u194,u195,u196,u197],[]⟩ wc:=by
 conv=>arg 2;whnf
 have hE:Hid (r1.s=r.s∧r1.cap=r.cap∧r1.first=r.first∧r1.shift=r.shift∧r1.fin=r.fin):=by rw [← HR1.out];exact zcc r (segOf s)
 obtain ⟨le,hle⟩:∃ le,Pl.lateEnd r.s=le:=⟨_,rfl⟩
 have HLE:Hid (Pl.lateEnd r.s=le):=hle
 have hled:=Pl.late_end HOK.out.1
 rw [hle] at hled
 clear hle
 obtain ⟨n0,hn0⟩:∃ n,k.es.length=n:=⟨_,rfl⟩
 have HN0:Hid (k.es.length=n0):=hn0
 have c2:wc.cell? ⟨w.heap.size,2,none⟩=some (.slice k.la n0 k.lc):=by have:=HS.out.box.cell 2 rfl;rw [← hn0];exact this
 have c0:=HS.out.box.cell 0 rfl
 clear hn0
 go_upto_region 15 with fail
 rename_i K1 hgo K2 hin
 go_upto_if 89 with fail
 go_cut [12] (fun v12 wx=>v12=.int .i64 le∧Hid (RiS w wx r1 k s ks))
 case first =>
  have ht:TkAt wc w.heap.size r.s k:=by have:=HS.out.tk;rw [hE.out.1] at this;exact this
  rcases end_of (g:=segOf s) HOK.out.1 ht with ⟨q1,q2⟩|⟨m,e,q1,q2,q3,q4⟩
  · rw [HN0.out] at q1
    rw [HLE.out] at q2
    have q5:r1.s.n=le:=by rw [hE.out.1];exact q2.symm
    have e1:decide ((0:Int)<(n0:Int))=false:=decide_eq_false (by omega)
    have e2:decide (0<n0)=false:=decide_eq_false (by omega)
    have e4:¬0<n0:=by omega
    clear q1 q2 ht
    go_wp2_with fail
    go_meet
    exact ⟨by rw [q5],HS.out⟩
  · rw [HN0.out] at q1
    rw [HLE.out] at q4
    have e1:decide ((0:Int)<(n0:Int))=true:=decide_eq_true (by omega)
    have e2:decide (0<n0)=true:=decide_eq_true (by omega)
    have e4:0<n0:=by omega
    obtain ⟨b,o,ka,f1,f2⟩:=ht.pcs.ents m e q2
    have hm1:(n0:Int)-1=(m:Int):=by omega
    have hm2:m<n0:=by omega
    have hm3:(m:Int)<(n0:Int):=by omega
    have hr:=ht.pcs.reach
    rw [HN0.out] at hr
    have hp:Pl.pend e.pc=e.f+(e.bs.length:Int):=rfl
    have hp2:=zfo HOK.out.1 _ q3
    have hp3:=zbd HOK.out.1.lat _ q3
    have hp4:e.pc.1=e.f:=rfl
    have hn0':=HOK.out.1.n0
    rw [ka] at c2
    have z1:IntKind.i64.wrap (e.f+(e.bs.length:Int))=le:=by rw [IntKind.wrap_i64];omega
    have z2:IntKind.i64.wrap (m:Int)=(m:Int):=by rw [IntKind.wrap_i64];omega
    have z3:IntKind.i64.wrap ((n0:Int)-1)=(m:Int):=by rw [hm1];exact z2
    clear q1 q2 q3 q4 ht hp hp2 hp3 hp4 hn0'
    go_upto_region 16 with fail
    go_quiet (fail)
    go_wp2_with fail
    go_meet
    exact ⟨rfl,HS.out.later (zad (Below.refl _ _) _)⟩
 case rest =>
  obtain ⟨rfl,HS1⟩:=hcut
  refine hgo _ _ ?_
  exact refIn2c r r1 ra k s ks w _ x E le bl _ _ _ _ _ _ _ _ _ _ _ _ _ _ _ _ _ _ _ _ _ _ _ _ _ _ _ _ _ _ _ _ _ _ _ _ _ _ _ _ _ _ _ _ _ _ _ _ _ _ _ _ _ _ _ _ _ _ _ _ _ _ _ _ _ _ _ _ _ _ _ _ _ _ _ _ _ _ _ _ _ _ _ _ _ _ _ _ _ _ _ _ _ _ _ _ _ _ _ _ _ _ _ _ _ _ _ _ _ _ _ _ _ _ _ _ _ _ _ _ _ _ _ _ _ _ _ _ _ _ _ _ _ _ _ _ _ _ _ _ _ _ _ _ _ _ _ _ _ _ _ _ _ _ _ _ _ _ _ _ _ _ _ _ _ _ _ _ _ _ _ _ _ _ _ _ _ _ _ _ _ _ _ _ _ _ _ _ _ _ _ HOK HS1 HX HR1 HLE
end Go.Proofs.Ytkigcdmlkmcdcaa
namespace Go.Proofs.Ytkigcdmlkmcdcaa
open Go.ChangeShapes Go.WideShapes Go.ChangeAt Go.RowKit
set_option linter.unusedVariables false
set_option linter.unusedSimpArgs false
set_option maxRecDepth 100000 in
set_option maxHeartbeats 16000000 in
theorem refIn2 (r ra:Pl.Rv) (k:Hd) (s:Seg) (ks:Hs) (w wc:World) (x E:Int) (bl:List Tm) (u0 u1 u6 u7 u10 u11 u12 u13 u14 u15 u16 u17 u18 u19 u20 u21 u22 u23 u24 u25 u26 u27 u28 u29 u30 u31 u32 u33 u34 u35 u36 u37 u38 u39 u40 u41 u42 u43 u44 u45 u46 u47 u48 u49 u50 u51 u52 u53 u54 u55 u56 u57 u58 u59 u60 u61 u62 u63 u64 u65 u66 u67 u68 u69 u70 u71 u72 u73 u74 u75 u76 u77 u78 u79 u80 u81 u82 u83 u84 u85 u86 u87 u88 u89 u90 u91 u92 u93 u94 u95 u96 u97 u98 u99 u100 u101 u102 u103 u104 u105 u106 u107 u108 u109 u110 u111 u112 u113 u114 u115 u116 u117 u118 u119 u120 u121 u122 u123 u124 u125 u126 u127 u128 u129 u130 u131 u132 u133 u134 u135 u136 u137 u138 u139 u140 u141 u142 u143 u144 u145 u146 u147 u148 u149 u150 u151 u152 u153 u154 u155 u156 u157 u158 u159 u160 u161 u162 u163 u164 u165 u166 u167 u168 u169 u170 u171 u172 u173 u174 u175 u176 u177 u178 u179 u180 u181 u182 u183 u184 u185 u186 u187 u188 u189 u190 u191 u192 u193 u194 u195 u196 u197:Value) (HOK:Hid (r.Ok∧U32 r.recent∧U32 r.irs∧U32 r.own∧SgAt w s ks)) (HS:Hid (RiS w wc r k s ks)) (HX:Hid (Pl.offI r (segOf s)=x∧x+(s.da.length:Int)=E∧Pl.intoR r (segOf s)=ra∧blkL r (segOf s)=bl)) :
 Code.wp Try.prog ((Try.f15.body.bind (fromA 11)).getD .skip) (bodyPost Try.prog Try.f15 (zej w ra bl)) ⟨#[u0,u1,.pointer (some ⟨w.heap.size,0,none⟩),.pointer (some ⟨w.heap.size+1,0,none⟩),.pointer (some ⟨w.heap.size+2,0,none⟩),.pointer (some ⟨w.heap.size+3,0,none⟩),u6,u7,.int .i64 x,.int .i64 E,u10,u11,u12,u13,u14,u15,u16,u17,u18,u19,u20,u21,u22,u23,u24,u25,u26,u27,u28,u29,u30,u31,u32,u33,u34,u35,u36,u37,u38,u39,u40,u41,u42,u43,u44,u45,u46,u47,u48,u49,u50,u51,u52,u53,u54,u55,u56,u57,u58,u59,u60,u61,u62,u63,u64,u65,u66,u67,u68,u69,u70,u71,u72,u73,u74,u75,u76,u77,u78,u79,u80,u81,u82,u83,u84,u85,u86,u87,u88,u89,u90,u91,u92,u93,u94,u95,u96,u97,u98,u99,u100,u101,u102,u103,u104,u105,u106,u107,u108,u109,u110,u111,u112,u113,u114,u115,u116,u117,u118,u119,u120,u121,u122,u123,u124,u125,u126,u127,u128,u129,u130,u131,u132,u133,u134,u135,u136,u137,u138,u139,u140,u141,u142,u143,u144,u145,u146,u147,u148,u149,u150,u151,u152,u153,u154,u155,u156,u157,u158,u159,u160,u161,u162,u163,u164,u165,u166,u167,u168,u169,u170,u171,u172,u173,u174,u175,u176,u177,u178,u179,u180,u181,u182,u183,u184,u185,u186,u187,u188,u189,u190,u191,u192,u193,u194,u195,u196,u197],[]⟩ wc:=by
 conv=>arg 2;whnf
 have hob:=zgf (g:=segOf s) HOK.out.1
 rw [HX.out.1] at hob
 have hnb:=HOK.out.1.n0
 have hnf:r.s.n≤562949953421312:=HOK.out.1.nf
 obtain ⟨r1,hr1⟩:∃ r1,Pl.stampR r (segOf s)=r1:=⟨_,rfl⟩
 obtain ⟨b1,hb1⟩:∃ b,decide (r.stamps=true∧x≤r.s.n)=b:=⟨_,rfl⟩
 have HR1:Hid (Pl.stampR r (segOf s)=r1∧decide (r.stamps=true∧x≤r.s.n)=b1):=⟨hr1,hb1⟩
 clear hr1 hb1
 go_upto_region 11 with fail
 rename_i K1 hgo K2 hin
 simp only [List.append_eq,List.cons_append,List.nil_append]
 go_cut [79] (fun v79 wx=>v79=.bool b1∧wx=wc)
 case first =>
  have c7:=HS.out.box.cell 7 rfl
  have c0:=HS.out.box.cell 0 rfl
  have h3:=HR1.out.2
  rcases (by cases r.stamps<;>simp:r.stamps=true∨r.stamps=false) with h1|h1
  · rw [h1] at c7 h3
    have e3:decide (x≤r.s.n)=b1:=by rw [← h3];simp
    clear h3 h1
    go_wp2_with fail
    go_meet
    exact ⟨by simp [e3],rfl⟩
  · rw [h1] at c7 h3
    have e3:b1=false:=by rw [← h3];simp
    subst e3
    clear h3 h1
    go_wp2_with fail
    go_meet
    exact ⟨by simp,rfl⟩
 case rest =>
  obtain ⟨rfl,hwc⟩:=hcut
  subst hwc
  go_upto_if 79 with fail
  go_cut [] (fun wx=>Hid (RiS w wx r1 k s ks))
  case first =>
   have h3:=HR1.out.2
   have h4:=HR1.out.1
   unfold Pl.stampR at h4
   rw [HX.out.1] at h4
   cases b1 with
   | false =>
    rw [if_neg (of_decide_eq_false h3)] at h4
    go_wp2_with fail
    go_meet
    rw [← h4]
    exact HS.out
   | true =>
    rw [if_pos (of_decide_eq_true h3)] at h4
    have d11:=HS.out.sg.cell 11 rfl
    have c6:=HS.out.box.cell 6 rfl
    have g6:=HS.out.box.frozen 6
    have c14:=HS.out.box.cell 14 rfl
    have g14:=HS.out.box.frozen 14
    clear h3
    go_wp2_with fail
    go_meet
    rw [← h4]
    exact (HS.out.put1 (r':={ r with recent:=s.va}) 6 (.int .u32 s.va) rfl rfl rfl).put1 14 (.bool true) rfl rfl rfl
  case rest =>
   refine hgo _ _ ?_
   exact refIn2b r r1 ra k s ks w _ x E bl _ _ _ _ _ _ _ _ _ _ _ _ _ _ _ _ _ _ _ _ _ _ _ _ _ _ _ _ _ _ _ _ _ _ _ _ _ _ _ _ _ _ _ _ _ _ _ _ _ _ _ _ _ _ _ _ _ _ _ _ _ _ _ _ _ _ _ _ _ _ _ _ _ _ _ _ _ _ _ _ _ _ _ _ _ _ _ _ _ _ _ _ _ _ _ _ _ _ _ _ _ _ _ _ _ _ _ _ _ _ _ _ _ _ _ _ _ _ _ _ _ _ _ _ _ _ _ _ _ _ _ _ _ _ _ _ _ _ _ _ _ _ _ _ _ _ _ _ _ _ _ _ _ _ _ _ _ _ _ _ _ _ _ _ _ _ _ _ _ _ _ _ _ _ _ _ _ _ _ _ _ _ _ _ _ _ _ _ _ _ _ _ HOK hcut HX HR1.out.1
end Go.Proofs.Ytkigcdmlkmcdcaa
