/- GK: Num Check. -/
import Derived.Test.YtkigcdmlkmcdcaaQZ
import Derived.Test.YtkigcdmlkmcdcaaQGNE
import Derived.Test.YtkigcdmlkmcdcaaQGNF
import Derived.Test.YtkigcdmlkmcdcaaQGJ
/- The contract of numbersMayBe. -/
namespace Go.Proofs.Ytkigcdmlkmcdcaa
open Go.ChangeShapes Go.WideShapes Go.ChangeAt Go.RowKit
set_option linter.unusedVariables false
set_option linter.unusedSimpArgs false
set_option maxRecDepth 100000 in
set_option maxHeartbeats 4000000 in
theorem numbers_walk (r:Pl.Rv) (h:Hd) (w:World) :
 Calls Try.prog 26 #[.agg #[.int .i64 r.s.n,.slice h.ua r.s.u.length h.uc,.slice h.la h.es.length h.lc,.int .i64 r.cap,.int .i64 r.shift,.int .i64 r.edge,.int .u32 r.recent,.bool r.stamps,.bool r.sacks,.int .i64 r.fin,.bool r.dn,.slice h.fa r.first.length h.fc,.int .u32 r.irs,.int .u32 r.own,.bool r.stamp]] w fun e w'=>e=.returned (.bool (numB r))∧Below w.heap.size w w':=by
 have cR:=fun W hl=>zgd r h W hl
 obtain ⟨mn,hmn⟩:∃ mn,(if r.s.n<r.cap then r.s.n else r.cap)=mn:=⟨_,rfl⟩
 have hmn2:mn≤r.s.n∧mn≤r.cap∧(mn=r.s.n∨mn=r.cap):=by rw [← hmn];split<;>omega
 have HM:Hid (mn≤r.s.n∧mn≤r.cap∧(mn=r.s.n∨mn=r.cap)):=hmn2
 clear hmn2
 have b0:Below w.heap.size w (w.alloc (.cells #[.int .i64 r.s.n,.slice h.ua r.s.u.length h.uc,.slice h.la h.es.length h.lc,.int .i64 r.cap,.int .i64 r.shift,.int .i64 r.edge,.int .u32 r.recent,.bool r.stamps,.bool r.sacks,.int .i64 r.fin,.bool r.dn,.slice h.fa r.first.length h.fc,.int .u32 r.irs,.int .u32 r.own,.bool r.stamp] 27)):=(Below.refl _ w).alloc (Nat.le_refl _) _
 by_cases a1:r.s.n<0
 · have HE:Hid (numB r=false):=by unfold Hid numB lowBb;simp [show ¬0≤r.s.n by omega]
   go_enter Try.func26,Try.ntmps26
   go_wp2_with fail
   go_ret
   exact ⟨za1 HE.out.symm,b0⟩
 by_cases a2:562949953421312<r.s.n
 · have HE:Hid (numB r=false):=by unfold Hid numB lowBb;simp [show ¬r.s.n≤562949953421312 by omega]
   go_enter Try.func26,Try.ntmps26
   go_wp2_with fail
   go_ret
   exact ⟨za1 HE.out.symm,b0⟩
 have cI:=zd0 r.cap r.shift
 cases a3:roomB r.cap r.shift with
 | false =>
  have HE:Hid (numB r=false):=by unfold Hid numB lowBb;simp [a3]
  rw [a3] at cI
  clear a3
  go_enter Try.func26,Try.ntmps26
  go_wp2_with (go_at_call 49;refine (cI _).mono ?_;rintro e w1 ⟨rfl,hw1⟩;obtain rfl:=hw1.symm)
  go_ret
  exact ⟨za1 HE.out.symm,b0⟩
 | true =>
  rw [a3] at cI
  have ha3:=zfm.1 a3
  by_cases a4:mn<(r.s.u.length:Int)
  · have HE:Hid (numB r=false):=by
     have:=HM.out
     unfold Hid numB lowBb
     rcases (by omega:¬(r.s.u.length:Int)≤r.cap∨¬(r.s.u.length:Int)≤r.s.n) with h|h<;>simp [h]
    clear a3
    go_enter Try.func26,Try.ntmps26
    go_wp2_with (go_at_call 49;refine (cI _).mono ?_;rintro e w1 ⟨rfl,hw1⟩;obtain rfl:=hw1.symm)
    go_ret
    exact ⟨za1 HE.out.symm,b0⟩
  have hlow:lowB r:=by have:=HM.out;unfold lowB;omega
  have HLW:Hid (lowBb r=true):=zda.2 hlow
  cases a5:finB r with
  | false =>
   have HE:Hid (numB r=false):=by unfold Hid numB;simp [a5]
   obtain ⟨g1,g2⟩:r.fin≠-1∧(r.fin<r.s.n∨562949953421312<r.fin):=by
    unfold finB at a5
    simp only [Bool.or_eq_false_iff,Bool.and_eq_false_iff,decide_eq_false_iff_not] at a5
    omega
   have g1':(r.fin != -1)=true:=by simpa using g1
   clear a3 a5 g1
   rcases g2 with g2|g2
   · go_enter Try.func26,Try.ntmps26
     go_wp2_with (go_at_call 49;refine (cI _).mono ?_;rintro e w1 ⟨rfl,hw1⟩;obtain rfl:=hw1.symm)
     go_ret
     exact ⟨za1 HE.out.symm,b0⟩
   · have g3:¬r.fin<r.s.n:=by omega
     go_enter Try.func26,Try.ntmps26
     go_wp2_with (go_at_call 49;refine (cI _).mono ?_;rintro e w1 ⟨rfl,hw1⟩;obtain rfl:=hw1.symm)
     go_ret
     exact ⟨za1 HE.out.symm,b0⟩
  | true =>
   have hX:=Box.new w 27 (rvL r h)
   obtain ⟨W0,hW0⟩:∃ W0,w.alloc (.cells #[.int .i64 r.s.n,.slice h.ua r.s.u.length h.uc,.slice h.la h.es.length h.lc,.int .i64 r.cap,.int .i64 r.shift,.int .i64 r.edge,.int .u32 r.recent,.bool r.stamps,.bool r.sacks,.int .i64 r.fin,.bool r.dn,.slice h.fa r.first.length h.fc,.int .u32 r.irs,.int .u32 r.own,.bool r.stamp] 27)=W0:=⟨_,rfl⟩
   have hW0':w.alloc (.cells (rvL r h).toArray 27)=W0:=hW0
   rw [hW0'] at hX
   rw [hW0] at b0
   have HK:Hid (∀ W,Below W0.heap.size W0 W→W.cell? ⟨w.heap.size,0,none⟩=some (.int .i64 r.s.n)∧W.cell? ⟨w.heap.size,1,none⟩=some (.slice h.ua r.s.u.length h.uc)∧W.cell? ⟨w.heap.size,2,none⟩=some (.slice h.la h.es.length h.lc)∧W.cell? ⟨w.heap.size,3,none⟩=some (.int .i64 r.cap)∧W.cell? ⟨w.heap.size,4,none⟩=some (.int .i64 r.shift)∧W.cell? ⟨w.heap.size,5,none⟩=some (.int .i64 r.edge)∧W.cell? ⟨w.heap.size,6,none⟩=some (.int .u32 r.recent)∧W.cell? ⟨w.heap.size,7,none⟩=some (.bool r.stamps)∧W.cell? ⟨w.heap.size,8,none⟩=some (.bool r.sacks)∧W.cell? ⟨w.heap.size,9,none⟩=some (.int .i64 r.fin)∧W.cell? ⟨w.heap.size,10,none⟩=some (.bool r.dn)∧W.cell? ⟨w.heap.size,11,none⟩=some (.slice h.fa r.first.length h.fc)∧W.cell? ⟨w.heap.size,12,none⟩=some (.int .u32 r.irs)∧W.cell? ⟨w.heap.size,13,none⟩=some (.int .u32 r.own)∧W.cell? ⟨w.heap.size,14,none⟩=some (.bool r.stamp)∧Below W0.heap.size W0 W):=fun W hW=>by
    obtain ⟨q0,q1,q2,q3,q4,q5,q6,q7,q8,q9,q10,q11,q12,q13,q14⟩:=Box.c15 (show Box W w.heap.size 27 (rvL r h) from hX.later hW)
    exact ⟨q0,q1,q2,q3,q4,q5,q6,q7,q8,q9,q10,q11,q12,q13,q14,hW⟩
   have HB:Hid (Below w.heap.size w W0):=b0
   have HF:Hid (numB r=(decide (0≤r.edge)&&decide (r.edge≤r.reach)&&(r.dn==(r.fin==r.s.n)))):=by unfold Hid numB;rw [HLW.out,a5];simp
   have cR':=fun W=>cR W hlow
   obtain ⟨R,hR⟩:∃ R,r.reach=R:=⟨_,rfl⟩
   rw [hR] at HF cR'
   obtain ⟨eq,heq⟩:∃ eq,(r.fin==r.s.n)=eq:=⟨_,rfl⟩
   rw [heq] at HF
   obtain ⟨c0,c1,c2,c3,c4,c5,c6,c7,c8,c9,c10,c11,c12,c13,c14,_⟩:=HK.out W0 (Below.refl _ _)
   have hfin:(r.fin != -1)=false∨((r.fin != -1)=true∧¬r.fin<r.s.n∧¬562949953421312<r.fin):=by
    unfold finB at a5
    simp only [Bool.or_eq_true,Bool.and_eq_true,decide_eq_true_iff] at a5
    simp only [bne_eq_false_iff_eq,bne_iff_ne]
    omega
   clear hX hW0' a3 hR cR hlow a5 b0
   have key:∀ (a:Act) (hEnd:Hid (True)),True:=fun _ _=>trivial
   clear key
   by_cases e1:r.edge<0
   · have HE:Hid (numB r=false):=by unfold Hid;rw [HF.out];simp [show ¬0≤r.edge by omega]
     have e1':decide (0≤r.edge)=false:=by simp;omega
     rcases hfin with g|⟨g1,g2,g3⟩
     all_goals (
      go_enter Try.func26,Try.ntmps26
      go_wp2_with (go_at_call 49;refine (cI _).mono ?_;rintro e w1 ⟨rfl,hw1⟩;obtain rfl:=hw1.symm)
      go_quiet (fail)
      go_wp2_with fail
      go_ret
      exact ⟨za1 HE.out.symm,zad HB.out _⟩)
   · have e1':decide (0≤r.edge)=true:=by simp;omega
     by_cases e2:R<r.edge
     · have HE:Hid (numB r=false):=by unfold Hid;rw [HF.out];simp [show ¬r.edge≤R by omega]
       have e2':decide (r.edge≤R)=false:=by simp;omega
       rcases hfin with g|⟨g1,g2,g3⟩
       · exact (numE_walk r h w W0 mn R hmn a1 a2 cI a4 g hW0 HB HK cR' e1' e2').mono (fun e w' hq=>⟨by rw [hq.1,HE.out],hq.2⟩)
       · exact (numF_walk r h w W0 mn R hmn a1 a2 cI a4 g1 g2 g3 hW0 HB HK cR' e1' e2').mono (fun e w' hq=>⟨by rw [hq.1,HE.out],hq.2⟩)
     · have e2':decide (r.edge≤R)=true:=by simp;omega
       have HE:Hid (numB r=(r.dn==eq)):=by unfold Hid;rw [HF.out,e1',e2'];simp
       rcases hfin with g|⟨g1,g2,g3⟩
       all_goals (
        go_enter Try.func26,Try.ntmps26
        go_wp2_with (go_at_call 49;refine (cI _).mono ?_;rintro e w1 ⟨rfl,hw1⟩;obtain rfl:=hw1.symm)
        clear hW0 c0 c1 c2 c3 c4 c5 c6 c7 c8 c9 c10 c11 c12 c13 c14
        go_region_held3 (fun W=>W.cell? ⟨w.heap.size,0,none⟩=some (.int .i64 r.s.n)∧W.cell? ⟨w.heap.size,1,none⟩=some (.slice h.ua r.s.u.length h.uc)∧W.cell? ⟨w.heap.size,2,none⟩=some (.slice h.la h.es.length h.lc)∧W.cell? ⟨w.heap.size,3,none⟩=some (.int .i64 r.cap)∧W.cell? ⟨w.heap.size,4,none⟩=some (.int .i64 r.shift)∧W.cell? ⟨w.heap.size,5,none⟩=some (.int .i64 r.edge)∧W.cell? ⟨w.heap.size,6,none⟩=some (.int .u32 r.recent)∧W.cell? ⟨w.heap.size,7,none⟩=some (.bool r.stamps)∧W.cell? ⟨w.heap.size,8,none⟩=some (.bool r.sacks)∧W.cell? ⟨w.heap.size,9,none⟩=some (.int .i64 r.fin)∧W.cell? ⟨w.heap.size,10,none⟩=some (.bool r.dn)∧W.cell? ⟨w.heap.size,11,none⟩=some (.slice h.fa r.first.length h.fc)∧W.cell? ⟨w.heap.size,12,none⟩=some (.int .u32 r.irs)∧W.cell? ⟨w.heap.size,13,none⟩=some (.int .u32 r.own)∧W.cell? ⟨w.heap.size,14,none⟩=some (.bool r.stamp)∧Below W0.heap.size W0 W)
         (exact HK.out _ (by repeat (first|with_reducible exact Below.refl _ _|with_reducible assumption|with_reducible refine Below.drew ?_|with_reducible refine zad ?_ _|with_reducible refine zaa ?_ _)))
         (first|(go_at_call 50;refine (cR' _).mono ?_;rintro e w1 ⟨rfl,hB⟩;have hb1:Below W0.heap.size W0 w1:=Below.on (by repeat (first|with_reducible exact Below.refl _ _|with_reducible assumption|with_reducible refine Below.drew ?_|with_reducible refine zad ?_ _|with_reducible refine zaa ?_ _)) hB))
        go_wp2_with fail
        go_ret
        exact ⟨za1 HE.out.symm,Below.on HB.out (by repeat (first|with_reducible exact Below.refl _ _|with_reducible assumption|with_reducible refine Below.drew ?_|with_reducible refine zad ?_ _|with_reducible refine zaa ?_ _))⟩)
set_option maxRecDepth 100000 in
set_option maxHeartbeats 4000000 in
theorem zec (r:Pl.Rv) (h:Hd) (w:World) (H:RvAt w r h) (q:Int) (hq:(if okB r h.es=true then (0:Int) else 230)=q) :
 Calls Try.prog 9 #[.agg #[.int .i64 r.s.n,.slice h.ua r.s.u.length h.uc,.slice h.la h.es.length h.lc,.int .i64 r.cap,.int .i64 r.shift,.int .i64 r.edge,.int .u32 r.recent,.bool r.stamps,.bool r.sacks,.int .i64 r.fin,.bool r.dn,.slice h.fa r.first.length h.fc,.int .u32 r.irs,.int .u32 r.own,.bool r.stamp]] w fun e w'=>e=.returned (.int .i64 q)∧Below w.heap.size w w':=by
 have hX:=Box.new w 27 (rvL r h)
 have b0:Below w.heap.size w (w.alloc (.cells #[.int .i64 r.s.n,.slice h.ua r.s.u.length h.uc,.slice h.la h.es.length h.lc,.int .i64 r.cap,.int .i64 r.shift,.int .i64 r.edge,.int .u32 r.recent,.bool r.stamps,.bool r.sacks,.int .i64 r.fin,.bool r.dn,.slice h.fa r.first.length h.fc,.int .u32 r.irs,.int .u32 r.own,.bool r.stamp] 27)):=(Below.refl _ w).alloc (Nat.le_refl _) _
 obtain ⟨W0,hW0⟩:∃ W0,w.alloc (.cells #[.int .i64 r.s.n,.slice h.ua r.s.u.length h.uc,.slice h.la h.es.length h.lc,.int .i64 r.cap,.int .i64 r.shift,.int .i64 r.edge,.int .u32 r.recent,.bool r.stamps,.bool r.sacks,.int .i64 r.fin,.bool r.dn,.slice h.fa r.first.length h.fc,.int .u32 r.irs,.int .u32 r.own,.bool r.stamp] 27)=W0:=⟨_,rfl⟩
 have hW0':w.alloc (.cells (rvL r h).toArray 27)=W0:=hW0
 rw [hW0'] at hX
 rw [hW0] at b0
 have HB:Hid (Below w.heap.size w W0):=b0
 have HK:Hid (∀ W,Below W0.heap.size W0 W→W.cell? ⟨w.heap.size,0,none⟩=some (.int .i64 r.s.n)∧W.cell? ⟨w.heap.size,1,none⟩=some (.slice h.ua r.s.u.length h.uc)∧W.cell? ⟨w.heap.size,2,none⟩=some (.slice h.la h.es.length h.lc)∧W.cell? ⟨w.heap.size,3,none⟩=some (.int .i64 r.cap)∧W.cell? ⟨w.heap.size,4,none⟩=some (.int .i64 r.shift)∧W.cell? ⟨w.heap.size,5,none⟩=some (.int .i64 r.edge)∧W.cell? ⟨w.heap.size,6,none⟩=some (.int .u32 r.recent)∧W.cell? ⟨w.heap.size,7,none⟩=some (.bool r.stamps)∧W.cell? ⟨w.heap.size,8,none⟩=some (.bool r.sacks)∧W.cell? ⟨w.heap.size,9,none⟩=some (.int .i64 r.fin)∧W.cell? ⟨w.heap.size,10,none⟩=some (.bool r.dn)∧W.cell? ⟨w.heap.size,11,none⟩=some (.slice h.fa r.first.length h.fc)∧W.cell? ⟨w.heap.size,12,none⟩=some (.int .u32 r.irs)∧W.cell? ⟨w.heap.size,13,none⟩=some (.int .u32 r.own)∧W.cell? ⟨w.heap.size,14,none⟩=some (.bool r.stamp)):=fun W hW=>Box.c15 (show Box W w.heap.size 27 (rvL r h) from hX.later hW)
 have n1:=numbers_walk r h W0
 have HQ:Hid ((if okB r h.es=true then (0:Int) else 230)=q):=hq
 obtain ⟨c0,c1,c2,c3,c4,c5,c6,c7,c8,c9,c10,c11,c12,c13,c14⟩:=HK.out W0 (Below.refl _ _)
 cases h1:numB r with
 | false =>
  rw [h1] at n1
  obtain rfl:q=230:=by rw [← hq];unfold okB;rw [h1];rfl
  clear hq h1 H hX hW0' b0
  go_enter Try.func9,Try.ntmps9
  go_wp2_with (first|(go_at_call 26;refine n1.mono ?_;rintro e w1 ⟨rfl,hB1⟩))
  go_ret
  exact ⟨rfl,Below.on HB.out hB1⟩
 | true =>
  rw [h1] at n1
  have hlow:lowB r:=by
   unfold numB at h1
   simp only [Bool.and_eq_true] at h1
   exact zda.1 h1.1.1.1.1
  have n2:=fun W (hW:Below W0.heap.size W0 W)=>late_walk r h W (H.later (Below.on b0 hW)) hlow
  cases h2:lateB r h.es with
  | false =>
   rw [h2] at n2
   obtain rfl:q=230:=by rw [← hq];unfold okB;rw [h1,h2];rfl
   clear hq h1 h2 H hX hW0' b0 hlow
   go_enter Try.func9,Try.ntmps9
   go_wp2_with (first
    | (go_at_call 26;refine n1.mono ?_;rintro e w1 ⟨rfl,hB1⟩;obtain ⟨d0,d1,d2,d3,d4,d5,d6,d7,d8,d9,d10,d11,d12,d13,d14⟩:=HK.out _ hB1)
    | (go_at_call 27;refine (n2 _ hB1).mono ?_;rintro e w2 ⟨rfl,hB2⟩))
   go_ret
   exact ⟨rfl,Below.on HB.out (Below.on hB1 hB2)⟩
  | true =>
   have hfits:Fits r.s.l:=by
    have hxs:∀ x∈h.es,I64 x.f∧x.bs.length≤140737488351232:=fun x hx=>⟨(H.late.ok x hx).2,(H.late.ok x hx).1.1.1⟩
    have h2':=h2
    unfold lateB at h2'
    simp only [Bool.and_eq_true] at h2'
    have hc:=(zhg (es:=h.es) (lo:=-1) (by omega) hxs).1 h2'.1
    rw [H.les] at hc
    obtain ⟨⟨a1,a2⟩,⟨a3,a4⟩,⟨a5,a6⟩,a7,a8⟩:=hlow
    cases hl:r.s.l with
    | nil=>exact ⟨0,by omega,trivial,fun p hp=>by cases hp⟩
    | cons p rest =>
     have hl0:h.es.length≠0:=by rw [← H.len,hl];simp
     have h3:=h2'.2
     simp only [Bool.or_eq_true,Bool.and_eq_true,decide_eq_true_iff] at h3
     obtain ⟨z,hz⟩:∃ z,r.s.l.getLast? = some z:=by rw [hl];exact ⟨_,List.getLast?_eq_some_getLast (by simp)⟩
     rcases h3 with h3|⟨h3,h4⟩
     · exact absurd h3 hl0
     · obtain ⟨x0,hx0⟩:∃ x0,h.es[0]? = some x0:=⟨_,List.getElem?_eq_getElem (by omega)⟩
       obtain ⟨x1,hx1⟩:∃ x1,h.es[h.es.length-1]? = some x1:=⟨_,List.getElem?_eq_getElem (by omega)⟩
       have e0:x0.pc=p:=by
        have:=congrArg (fun l=>l[0]?) H.les
        simp only [List.getElem?_map,hx0,hl] at this
        simpa using this
       have e1:x1.pc=z:=by
        have hz':=hz
        rw [← H.les,List.getLast?_map,List.getLast?_eq_getElem?,hx1] at hz'
        simpa using hz'
       have e2:(spnsW h.es)[0]?.getD ((0,0):Tm)=spW x0:=by unfold spnsW;rw [List.getElem?_map,hx0];rfl
       have e3:(spnsW h.es)[h.es.length-1]?.getD ((0,0):Tm)=spW x1:=by unfold spnsW;rw [List.getElem?_map,hx1];rfl
       have hlb:zbn r≤562949953421312:=by
        have hm:=(Pl.min_le r.reach Pl.farI).2.1
        have hm2:=(Pl.min_le r.limit r.fin).1
        unfold zbn
        have:r.limit=Pl.minJ r.reach Pl.farI:=rfl
        unfold Pl.farI at *
        split<;>omega
       have e4:(spW x1).2=Pl.pend z:=by
        have hzb:=hc.2 z (List.mem_of_getLast? hz)
        rw [← e1] at hzb ⊢
        have e5:Pl.pend x1.pc=x1.f+(x1.bs.length:Int):=rfl
        have hb:=(hxs x1 (List.mem_of_getElem? hx1)).1
        unfold I64 at hb
        show wrap64 (x1.f+(x1.bs.length:Int))=_
        rw [e5] at hzb ⊢
        exact zbg (by omega) (by omega)
       have h4':((spnsW h.es)[h.es.length-1]?.getD ((0,0):Tm)).2≤zbn r:=h4
       rw [e3,e4] at h4'
       rw [← hl]
       have h3':r.s.n<((spnsW h.es)[0]?.getD ((0,0):Tm)).1:=h3
       rw [e2] at h3'
       refine ⟨r.s.n,a1,?_,fun q hq'=>?_⟩
       · rw [hl] at hc ⊢
         refine ⟨?_,hc.1.2⟩
         rw [← e0];exact h3'
       · have:=ze7 hc.1 hz q hq'
         omega
   have n3:=fun W (hW:Below W0.heap.size W0 W)=>firsts_walk r h W (H.later (Below.on b0 hW)) hfits
   obtain ⟨f,hf⟩:∃ f,fstGo r.s.l r.first []=f:=⟨_,rfl⟩
   rw [hf] at n3
   rw [h2] at n2
   have HF:Hid ((if f=true then (0:Int) else 230)=q):=by
    unfold Hid;rw [← hq];unfold okB;rw [h1,h2,hf];simp
   clear hq h1 h2 H hX hW0' b0 hlow hfits hf
   cases f with
   | true =>
    obtain rfl:(0:Int)=q:=by have:=HF.out;simpa using this
    go_enter Try.func9,Try.ntmps9
    go_wp2_with (first
     | (go_at_call 26;refine n1.mono ?_;rintro e w1 ⟨rfl,hB1⟩;obtain ⟨d0,d1,d2,d3,d4,d5,d6,d7,d8,d9,d10,d11,d12,d13,d14⟩:=HK.out _ hB1)
     | (go_at_call 27;refine (n2 _ hB1).mono ?_;rintro e w2 ⟨rfl,hB2⟩;have hB12:=Below.on hB1 hB2;clear d0 d1 d2 d3 d4 d5 d6 d7 d8 d9 d10 d11 d12 d13 d14;obtain ⟨d0,d1,d2,d3,d4,d5,d6,d7,d8,d9,d10,d11,d12,d13,d14⟩:=HK.out _ hB12)
     | (go_at_call 28;refine (n3 _ hB12).mono ?_;rintro e w3 ⟨rfl,hB3⟩))
    go_ret
    exact ⟨rfl,Below.on HB.out (Below.on hB12 hB3)⟩
   | false =>
    obtain rfl:(230:Int)=q:=by have:=HF.out;simpa using this
    go_enter Try.func9,Try.ntmps9
    go_wp2_with (first
     | (go_at_call 26;refine n1.mono ?_;rintro e w1 ⟨rfl,hB1⟩;obtain ⟨d0,d1,d2,d3,d4,d5,d6,d7,d8,d9,d10,d11,d12,d13,d14⟩:=HK.out _ hB1)
     | (go_at_call 27;refine (n2 _ hB1).mono ?_;rintro e w2 ⟨rfl,hB2⟩;have hB12:=Below.on hB1 hB2;clear d0 d1 d2 d3 d4 d5 d6 d7 d8 d9 d10 d11 d12 d13 d14;obtain ⟨d0,d1,d2,d3,d4,d5,d6,d7,d8,d9,d10,d11,d12,d13,d14⟩:=HK.out _ hB12)
     | (go_at_call 28;refine (n3 _ hB12).mono ?_;rintro e w3 ⟨rfl,hB3⟩))
    go_ret
    exact ⟨rfl,Below.on HB.out (Below.on hB12 hB3)⟩
theorem zbk (r:Pl.Rv) (h:Hd) (w:World) (H:RvAt w r h) (hok:r.Ok):Calls Try.prog 9 #[.agg #[.int .i64 r.s.n,.slice h.ua r.s.u.length h.uc,.slice h.la h.es.length h.lc,.int .i64 r.cap,.int .i64 r.shift,.int .i64 r.edge,.int .u32 r.recent,.bool r.stamps,.bool r.sacks,.int .i64 r.fin,.bool r.dn,.slice h.fa r.first.length h.fc,.int .u32 r.irs,.int .u32 r.own,.bool r.stamp]] w fun e w'=>e=.returned (.int .i64 0)∧Below w.heap.size w w' :=
 zec r h w H 0 (by rw [if_pos ((okB_iff H).2 hok)])
theorem ze0 (r:Pl.Rv) (h:Hd) (w:World) (H:RvAt w r h) (hok:¬r.Ok):Calls Try.prog 9 #[.agg #[.int .i64 r.s.n,.slice h.ua r.s.u.length h.uc,.slice h.la h.es.length h.lc,.int .i64 r.cap,.int .i64 r.shift,.int .i64 r.edge,.int .u32 r.recent,.bool r.stamps,.bool r.sacks,.int .i64 r.fin,.bool r.dn,.slice h.fa r.first.length h.fc,.int .u32 r.irs,.int .u32 r.own,.bool r.stamp]] w fun e w'=>e=.returned (.int .i64 230)∧Below w.heap.size w w' :=
 zec r h w H 230 (by rw [if_neg (fun hc=>hok ((okB_iff H).1 hc))])
end Go.Proofs.Ytkigcdmlkmcdcaa
