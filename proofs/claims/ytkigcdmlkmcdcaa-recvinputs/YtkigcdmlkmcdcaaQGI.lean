/- GI: Bound LateB Merged BothI Missing. -/
import Derived.Test.YtkigcdmlkmcdcaaQZ
import Derived.Test.YtkigcdmlkmcdcaaQGE
import Derived.Test.YtkigcdmlkmcdcaaQGF
import Derived.Test.YtkigcdmlkmcdcaaQGG
import Derived.Test.YtkigcdmlkmcdcaaQGD
/- The contract of bound. -/
namespace Go.Proofs.Ytkigcdmlkmcdcaa
open Go.ChangeShapes Go.WideShapes Go.ChangeAt Go.RowKit
set_option linter.unusedVariables false
set_option linter.unusedSimpArgs false
def zbn (r:Pl.Rv):Int:=if r.fin=-1 then r.limit else Pl.minJ r.limit r.fin
theorem zgo (r:Pl.Rv) (h:Hd) (w:World) (hl:lowB r) :
 Calls Try.prog 53 #[.agg #[.int .i64 r.s.n,.slice h.ua r.s.u.length h.uc,.slice h.la h.es.length h.lc,.int .i64 r.cap,.int .i64 r.shift,.int .i64 r.edge,.int .u32 r.recent,.bool r.stamps,.bool r.sacks,.int .i64 r.fin,.bool r.dn,.slice h.fa r.first.length h.fc,.int .u32 r.irs,.int .u32 r.own,.bool r.stamp]] w fun e w'=>e=.returned (.int .i64 (zbn r))∧Below w.heap.size w w':=by
 have c:=fun W=>zgh r h W hl
 obtain ⟨R,hR⟩:∃ R,r.limit=R:=⟨_,rfl⟩
 by_cases hf:r.fin=-1
 · have HL:Hid (zbn r=R):=by unfold Hid zbn;rw [if_pos hf,hR]
   rw [hR] at c
   have hf':(r.fin==-1)=true:=by simpa using hf
   clear hR hl hf
   go_enter Try.func53,Try.ntmps53
   go_wp2_with (go_at_call 72;refine (c _).mono ?_;rintro e w1 ⟨rfl,hB⟩)
   go_ret
   exact ⟨za9 HL.out.symm,((Below.refl _ w).alloc (Nat.le_refl _) _).trans (hB.mono (by simp))⟩
 · have HL:Hid (zbn r=Pl.minJ R r.fin):=by unfold Hid zbn;rw [if_neg hf,hR]
   rw [hR] at c
   have hf':(r.fin==-1)=false:=by simpa using hf
   have hX:=Box.new w 27 (rvL r h)
   have hb0:Below w.heap.size w (w.alloc (.cells (rvL r h).toArray 27)):=(Below.refl _ w).alloc (Nat.le_refl _) _
   obtain ⟨W0,hW0⟩:∃ W0,w.alloc (.cells #[.int .i64 r.s.n,.slice h.ua r.s.u.length h.uc,.slice h.la h.es.length h.lc,.int .i64 r.cap,.int .i64 r.shift,.int .i64 r.edge,.int .u32 r.recent,.bool r.stamps,.bool r.sacks,.int .i64 r.fin,.bool r.dn,.slice h.fa r.first.length h.fc,.int .u32 r.irs,.int .u32 r.own,.bool r.stamp] 27)=W0:=⟨_,rfl⟩
   have hW0':w.alloc (.cells (rvL r h).toArray 27)=W0:=hW0
   rw [hW0'] at hX hb0
   have HK:Hid (∀ W,Below W0.heap.size W0 W→W.cell? ⟨w.heap.size,0,none⟩=some (.int .i64 r.s.n)∧W.cell? ⟨w.heap.size,1,none⟩=some (.slice h.ua r.s.u.length h.uc)∧W.cell? ⟨w.heap.size,2,none⟩=some (.slice h.la h.es.length h.lc)∧W.cell? ⟨w.heap.size,3,none⟩=some (.int .i64 r.cap)∧W.cell? ⟨w.heap.size,4,none⟩=some (.int .i64 r.shift)∧W.cell? ⟨w.heap.size,5,none⟩=some (.int .i64 r.edge)∧W.cell? ⟨w.heap.size,6,none⟩=some (.int .u32 r.recent)∧W.cell? ⟨w.heap.size,7,none⟩=some (.bool r.stamps)∧W.cell? ⟨w.heap.size,8,none⟩=some (.bool r.sacks)∧W.cell? ⟨w.heap.size,9,none⟩=some (.int .i64 r.fin)∧W.cell? ⟨w.heap.size,10,none⟩=some (.bool r.dn)∧W.cell? ⟨w.heap.size,11,none⟩=some (.slice h.fa r.first.length h.fc)∧W.cell? ⟨w.heap.size,12,none⟩=some (.int .u32 r.irs)∧W.cell? ⟨w.heap.size,13,none⟩=some (.int .u32 r.own)∧W.cell? ⟨w.heap.size,14,none⟩=some (.bool r.stamp)∧Below W0.heap.size W0 W):=fun W hW=>by
    obtain ⟨q0,q1,q2,q3,q4,q5,q6,q7,q8,q9,q10,q11,q12,q13,q14⟩:=Box.c15 (show Box W w.heap.size 27 (rvL r h) from hX.later hW)
    exact ⟨q0,q1,q2,q3,q4,q5,q6,q7,q8,q9,q10,q11,q12,q13,q14,hW⟩
   have HB:Hid (Below w.heap.size w W0):=hb0
   obtain ⟨c0,c1,c2,c3,c4,c5,c6,c7,c8,c9,c10,c11,c12,c13,c14,_⟩:=HK.out W0 (Below.refl _ _)
   clear hR hl hf hb0 hX hW0'
   go_enter Try.func53,Try.ntmps53
   go_wp2_with fail
   clear hW0 c0 c1 c2 c3 c4 c5 c6 c7 c8 c9 c10 c11 c12 c13 c14
   go_region_held3 (fun W=>W.cell? ⟨w.heap.size,0,none⟩=some (.int .i64 r.s.n)∧W.cell? ⟨w.heap.size,1,none⟩=some (.slice h.ua r.s.u.length h.uc)∧W.cell? ⟨w.heap.size,2,none⟩=some (.slice h.la h.es.length h.lc)∧W.cell? ⟨w.heap.size,3,none⟩=some (.int .i64 r.cap)∧W.cell? ⟨w.heap.size,4,none⟩=some (.int .i64 r.shift)∧W.cell? ⟨w.heap.size,5,none⟩=some (.int .i64 r.edge)∧W.cell? ⟨w.heap.size,6,none⟩=some (.int .u32 r.recent)∧W.cell? ⟨w.heap.size,7,none⟩=some (.bool r.stamps)∧W.cell? ⟨w.heap.size,8,none⟩=some (.bool r.sacks)∧W.cell? ⟨w.heap.size,9,none⟩=some (.int .i64 r.fin)∧W.cell? ⟨w.heap.size,10,none⟩=some (.bool r.dn)∧W.cell? ⟨w.heap.size,11,none⟩=some (.slice h.fa r.first.length h.fc)∧W.cell? ⟨w.heap.size,12,none⟩=some (.int .u32 r.irs)∧W.cell? ⟨w.heap.size,13,none⟩=some (.int .u32 r.own)∧W.cell? ⟨w.heap.size,14,none⟩=some (.bool r.stamp)∧Below W0.heap.size W0 W)
    (exact HK.out _ (by repeat (first|with_reducible exact Below.refl _ _|with_reducible assumption|with_reducible refine Below.drew ?_|with_reducible refine zad ?_ _|with_reducible refine zaa ?_ _)))
    (first|(go_at_call 72;refine (c _).mono ?_;rintro e w1 ⟨rfl,hB⟩;have hb1:Below W0.heap.size W0 w1:=Below.on (by repeat (first|with_reducible exact Below.refl _ _|with_reducible assumption|with_reducible refine Below.drew ?_|with_reducible refine zad ?_ _|with_reducible refine zaa ?_ _)) hB))
   all_goals go_wp2_with fail
   all_goals go_ret
   all_goals (refine ⟨za9 ?_,Below.on HB.out (by first|exact hb1|exact zad hb1 _)⟩;rw [HL.out];unfold Pl.minJ;first|rw [if_pos (by assumption)]|rw [if_neg (by omega)])
def lateB (r:Pl.Rv) (es:List En):Bool:=chk (-1) (spnsW es)&&(decide (es.length=0) || (decide (r.s.n<((spnsW es)[0]?.getD (0,0)).1)&&decide (((spnsW es)[es.length-1]?.getD (0,0)).2≤zbn r)))
set_option maxRecDepth 100000 in
set_option maxHeartbeats 4000000 in
theorem late_walk (r:Pl.Rv) (h:Hd) (w:World) (H:RvAt w r h) (hl:lowB r) :
 Calls Try.prog 27 #[.agg #[.int .i64 r.s.n,.slice h.ua r.s.u.length h.uc,.slice h.la h.es.length h.lc,.int .i64 r.cap,.int .i64 r.shift,.int .i64 r.edge,.int .u32 r.recent,.bool r.stamps,.bool r.sacks,.int .i64 r.fin,.bool r.dn,.slice h.fa r.first.length h.fc,.int .u32 r.irs,.int .u32 r.own,.bool r.stamp]] w fun e w'=>e=.returned (.bool (lateB r h.es))∧Below w.heap.size w w':=by
 obtain ⟨ua,uc,la,lc,es,fa,fc⟩:=h
 have hlr:es.length*32≤140737488351232:=H.late.reach
 have hX:=Box.new w 27 (rvL r ⟨ua,uc,la,lc,es,fa,fc⟩)
 have b0:Below w.heap.size w (w.alloc (.cells (rvL r ⟨ua,uc,la,lc,es,fa,fc⟩).toArray 27)):=(Below.refl _ w).alloc (Nat.le_refl _) _
 have cB:=fun W=>zgo r ⟨ua,uc,la,lc,es,fa,fc⟩ W hl
 dsimp only at cB ⊢
 obtain ⟨W0,hW0⟩:∃ W0,w.alloc (.cells #[.int .i64 r.s.n,.slice ua r.s.u.length uc,.slice la es.length lc,.int .i64 r.cap,.int .i64 r.shift,.int .i64 r.edge,.int .u32 r.recent,.bool r.stamps,.bool r.sacks,.int .i64 r.fin,.bool r.dn,.slice fa r.first.length fc,.int .u32 r.irs,.int .u32 r.own,.bool r.stamp] 27)=W0:=⟨_,rfl⟩
 have hW0':w.alloc (.cells (rvL r ⟨ua,uc,la,lc,es,fa,fc⟩).toArray 27)=W0:=hW0
 rw [hW0'] at hX b0
 have HK:Hid (∀ W,Below W0.heap.size W0 W→W.cell? ⟨w.heap.size,0,none⟩=some (.int .i64 r.s.n)∧W.cell? ⟨w.heap.size,1,none⟩=some (.slice ua r.s.u.length uc)∧W.cell? ⟨w.heap.size,2,none⟩=some (.slice la es.length lc)∧W.cell? ⟨w.heap.size,3,none⟩=some (.int .i64 r.cap)∧W.cell? ⟨w.heap.size,4,none⟩=some (.int .i64 r.shift)∧W.cell? ⟨w.heap.size,5,none⟩=some (.int .i64 r.edge)∧W.cell? ⟨w.heap.size,6,none⟩=some (.int .u32 r.recent)∧W.cell? ⟨w.heap.size,7,none⟩=some (.bool r.stamps)∧W.cell? ⟨w.heap.size,8,none⟩=some (.bool r.sacks)∧W.cell? ⟨w.heap.size,9,none⟩=some (.int .i64 r.fin)∧W.cell? ⟨w.heap.size,10,none⟩=some (.bool r.dn)∧W.cell? ⟨w.heap.size,11,none⟩=some (.slice fa r.first.length fc)∧W.cell? ⟨w.heap.size,12,none⟩=some (.int .u32 r.irs)∧W.cell? ⟨w.heap.size,13,none⟩=some (.int .u32 r.own)∧W.cell? ⟨w.heap.size,14,none⟩=some (.bool r.stamp)):=fun W hW=>Box.c15 (show Box W w.heap.size 27 [.int .i64 r.s.n,.slice ua r.s.u.length uc,.slice la es.length lc,.int .i64 r.cap,.int .i64 r.shift,.int .i64 r.edge,.int .u32 r.recent,.bool r.stamps,.bool r.sacks,.int .i64 r.fin,.bool r.dn,.slice fa r.first.length fc,.int .u32 r.irs,.int .u32 r.own,.bool r.stamp] from hX.later hW)
 have HB:Hid (Below w.heap.size w W0):=b0
 have cR:=rowOf_any la lc es W0 (H.late.later b0)
 obtain ⟨ts,hts⟩:∃ ts,spnsW es=ts:=⟨_,rfl⟩
 have htl:ts.length=es.length:=by rw [← hts];unfold spnsW;rw [List.length_map]
 have HE:Hid (lateB r es=(chk (-1) ts&&(decide (es.length=0) || (decide (r.s.n<(ts[0]?.getD (0,0)).1)&&decide ((ts[es.length-1]?.getD (0,0)).2≤zbn r))))):=by unfold Hid lateB;rw [hts]
 rw [hts] at cR
 obtain ⟨bd,hbd⟩:∃ bd,zbn r=bd:=⟨_,rfl⟩
 rw [hbd] at cB HE
 have cC:∀ (va:Option Addr) (vc:Nat) (W:World),za0 W va ts→Calls Try.prog 52 #[.slice va es.length vc] W fun e W'=>e=.returned (.int .i64 (errI ts))∧Below W.heap.size W W':=fun va vc W hT=>by
  have:=check_any va vc ts W hT
  rw [htl] at this
  exact this
 obtain ⟨n,hn⟩:∃ n,es.length=n:=⟨_,rfl⟩
 rw [hn] at hlr hW0 HK cB cR cC HE htl
 rw [hn]
 obtain ⟨c0,c1,c2,c3,c4,c5,c6,c7,c8,c9,c10,c11,c12,c13,c14⟩:=HK.out W0 (Below.refl _ _)
 have HL:Hid (ts.length=n):=htl
 clear hX hW0' b0 H hts hl htl hbd hn
 cases hc:chk (-1) ts with
 | false =>
  have hE:errI ts=60:=by simp [errI,hc]
  have HG:Hid (lateB r es=false):=by unfold Hid;rw [HE.out,hc];rfl
  rw [hE] at cC
  clear hE hc
  go_enter Try.func27,Try.ntmps27
  go_wp2_with (first
   | (go_at_call 51;refine cR.mono ?_;rintro e w1 ⟨va,vc,rfl,hR1,hB1⟩;have cC':=cC va vc w1 hR1.tims)
   | (go_at_call 52;refine cC'.mono ?_;rintro e w2 ⟨rfl,hB2⟩))
  go_ret
  exact ⟨za1 HG.out.symm,Below.on HB.out (Below.on hB1 hB2)⟩
 | true =>
  have hE:errI ts=0:=by simp [errI,hc]
  rw [hc,Bool.true_and] at HE
  rw [hE] at cC
  clear hE hc
  by_cases h0:n=0
  · have HG:Hid (lateB r es=true):=by unfold Hid;rw [HE.out,h0];simp
    have h0':((n:Int)==0)=true:=by simp [h0]
    clear h0
    go_enter Try.func27,Try.ntmps27
    go_wp2_with (first
     | (go_at_call 51;refine cR.mono ?_;rintro e w1 ⟨va,vc,rfl,hR1,hB1⟩;have cC':=cC va vc w1 hR1.tims)
     | (go_at_call 52;refine cC'.mono ?_;rintro e w2 ⟨rfl,hB2⟩))
    have HBe:Hid (Below w.heap.size w w2):=Below.on HB.out (Below.on hB1 hB2)
    clear hB1 hB2 cC' hR1
    go_quiet (fail)
    go_wp2_with fail
    go_ret
    exact ⟨za1 HG.out.symm,zad HBe.out _⟩
  · have h0':((n:Int)==0)=false:=by simp [h0]
    have hnn:(0:Int)<(n:Int):=by omega
    have HN0:Hid (¬n=0):=h0
    obtain ⟨m,hm⟩:∃ m,n=m+1:=⟨n-1,by omega⟩
    have hm1:(n:Int)-1=(m:Int):=by omega
    have hm2:(m:Int)<(n:Int):=by omega
    have hm3:m<n:=by omega
    have hnn':0<n:=by omega
    have hwm:IntKind.i64.wrap (m:Int)=(m:Int):=by rw [IntKind.wrap_i64];omega
    have hwr:IntKind.i64.wrap ((n:Int)-1)=(m:Int):=by rw [IntKind.wrap_i64];omega
    have HM:Hid (n=m+1):=hm
    clear h0 hm
    go_enter Try.func27,Try.ntmps27
    go_wp2_with (go_at_call 51;refine cR.mono ?_;rintro e w1 ⟨va,vc,rfl,hR1,hB1⟩;have cC':=cC va vc w1 hR1.tims)
    refine cC'.mono ?_
    rintro e w2 ⟨rfl,hB2⟩
    have hR2:=hR1.below hB2 (Nat.le_refl _)
    have hB12:=Below.on hB1 hB2
    obtain ⟨b,o,rfl,z0,_⟩:=hR2.tims.2 0 (by rw [HL.out,HM.out];omega)
    obtain ⟨_,_,e3,_,z3⟩:=hR2.tims.2 m (by rw [HL.out,HM.out];omega)
    cases e3
    obtain ⟨f0,hf0⟩:∃ f0,(ts[0]?.getD (0,0)).1=f0:=⟨_,rfl⟩
    obtain ⟨t1,ht1⟩:∃ t1,(ts[m]?.getD (0,0)).2=t1:=⟨_,rfl⟩
    have HG:Hid (lateB r es=(decide (r.s.n<f0)&&decide (t1≤bd))):=by
     unfold Hid
     rw [HE.out,show n-1=m from by have:=HM.out;omega,hf0,ht1]
     simp [HN0.out]
    rw [hf0] at z0
    rw [ht1] at z3
    have z0':w2.cell? ⟨b,o,none⟩=some (.int .i64 f0):=by simpa using z0
    have HK2:Hid (∀ W,Below w2.heap.size w2 W→W.cell? ⟨b,o,none⟩=some (.int .i64 f0)∧W.cell? ⟨b,o+m*2+1,none⟩=some (.int .i64 t1)∧W.cell? ⟨w.heap.size,0,none⟩=some (.int .i64 r.s.n)∧W.cell? ⟨w.heap.size,1,none⟩=some (.slice ua r.s.u.length uc)∧W.cell? ⟨w.heap.size,2,none⟩=some (.slice la n lc)∧W.cell? ⟨w.heap.size,3,none⟩=some (.int .i64 r.cap)∧W.cell? ⟨w.heap.size,4,none⟩=some (.int .i64 r.shift)∧W.cell? ⟨w.heap.size,5,none⟩=some (.int .i64 r.edge)∧W.cell? ⟨w.heap.size,6,none⟩=some (.int .u32 r.recent)∧W.cell? ⟨w.heap.size,7,none⟩=some (.bool r.stamps)∧W.cell? ⟨w.heap.size,8,none⟩=some (.bool r.sacks)∧W.cell? ⟨w.heap.size,9,none⟩=some (.int .i64 r.fin)∧W.cell? ⟨w.heap.size,10,none⟩=some (.bool r.dn)∧W.cell? ⟨w.heap.size,11,none⟩=some (.slice fa r.first.length fc)∧W.cell? ⟨w.heap.size,12,none⟩=some (.int .u32 r.irs)∧W.cell? ⟨w.heap.size,13,none⟩=some (.int .u32 r.own)∧W.cell? ⟨w.heap.size,14,none⟩=some (.bool r.stamp)∧Below w2.heap.size w2 W):=fun W hW=>by
     obtain ⟨q0,q1,q2,q3,q4,q5,q6,q7,q8,q9,q10,q11,q12,q13,q14⟩:=HK.out W (Below.on hB12 hW)
     exact ⟨(hW.cell (p:=⟨b,o,none⟩) (zac z0')).trans z0',(hW.cell (p:=⟨b,o+m*2+1,none⟩) (zac z3)).trans z3,q0,q1,q2,q3,q4,q5,q6,q7,q8,q9,q10,q11,q12,q13,q14,hW⟩
    have HBe:Hid (Below w.heap.size w w2):=Below.on HB.out hB12
    clear hB1 hB2 cC' hR1 hR2 hB12 hf0 ht1 z0 c0 c1 c2 c3 c4 c5 c6 c7 c8 c9 c10 c11 c12 c13 c14
    obtain ⟨_,_,c0,c1,c2,c3,c4,c5,c6,c7,c8,c9,c10,c11,c12,c13,c14,_⟩:=HK2.out w2 (Below.refl _ _)
    by_cases g1:r.s.n<f0
    · have g1':decide (r.s.n<f0)=true:=by simpa using g1
      rw [g1',Bool.true_and] at HG
      clear g1
      go_wp2_with fail
      clear c0 c1 c2 c3 c4 c5 c6 c7 c8 c9 c10 c11 c12 c13 c14 z0' z3
      go_region_held3 (fun W=>W.cell? ⟨b,o,none⟩=some (.int .i64 f0)∧W.cell? ⟨b,o+m*2+1,none⟩=some (.int .i64 t1)∧W.cell? ⟨w.heap.size,0,none⟩=some (.int .i64 r.s.n)∧W.cell? ⟨w.heap.size,1,none⟩=some (.slice ua r.s.u.length uc)∧W.cell? ⟨w.heap.size,2,none⟩=some (.slice la n lc)∧W.cell? ⟨w.heap.size,3,none⟩=some (.int .i64 r.cap)∧W.cell? ⟨w.heap.size,4,none⟩=some (.int .i64 r.shift)∧W.cell? ⟨w.heap.size,5,none⟩=some (.int .i64 r.edge)∧W.cell? ⟨w.heap.size,6,none⟩=some (.int .u32 r.recent)∧W.cell? ⟨w.heap.size,7,none⟩=some (.bool r.stamps)∧W.cell? ⟨w.heap.size,8,none⟩=some (.bool r.sacks)∧W.cell? ⟨w.heap.size,9,none⟩=some (.int .i64 r.fin)∧W.cell? ⟨w.heap.size,10,none⟩=some (.bool r.dn)∧W.cell? ⟨w.heap.size,11,none⟩=some (.slice fa r.first.length fc)∧W.cell? ⟨w.heap.size,12,none⟩=some (.int .u32 r.irs)∧W.cell? ⟨w.heap.size,13,none⟩=some (.int .u32 r.own)∧W.cell? ⟨w.heap.size,14,none⟩=some (.bool r.stamp)∧Below w2.heap.size w2 W)
       (exact HK2.out _ (by repeat (first|with_reducible exact Below.refl _ _|with_reducible assumption|with_reducible refine Below.drew ?_|with_reducible refine zad ?_ _|with_reducible refine zaa ?_ _)))
       (first|(go_at_call 53;refine (cB _).mono ?_;rintro e w3 ⟨rfl,hB3⟩;have hb3:Below w2.heap.size w2 w3:=Below.on (by repeat (first|with_reducible exact Below.refl _ _|with_reducible assumption|with_reducible refine Below.drew ?_|with_reducible refine zad ?_ _|with_reducible refine zaa ?_ _)) hB3))
      go_wp2_with fail
      go_ret
      exact ⟨za1 HG.out.symm,Below.on HBe.out (by repeat (first|with_reducible exact Below.refl _ _|with_reducible assumption|with_reducible refine Below.drew ?_|with_reducible refine zad ?_ _|with_reducible refine zaa ?_ _))⟩
    · have g1':decide (r.s.n<f0)=false:=by simpa using g1
      have HG':Hid (lateB r es=false):=by unfold Hid;rw [HG.out,g1'];rfl
      clear g1
      go_wp2_with fail
      go_quiet (fail)
      go_wp2_with fail
      go_ret
      exact ⟨za1 HG'.out.symm,zad HBe.out _⟩
open Go.Shelf
attribute [local go_sem] Oper.semAt_some
structure Oth (g:Nat) (w V:World):Prop where
 size:w.heap.size≤V.heap.size
 same:∀ k,k<w.heap.size→k≠g→¬is5 w k→V.heap[k]? = w.heap[k]?
theorem Oth.box {g:Nat} {w V:World} (h:Oth g w V) {p:Nat} {t:TypeId} {cs:List Value} (hb:Box w p t cs) (ht:t≠5) (hp:p≠g):Box V p t cs:=(h.same p hb.lt hp (fun ⟨cur,fr,e⟩=>hb.ne e ht rfl)).trans hb
structure KO (B g:Nat) (wf w V:World):Prop where
 kp:Keep B wf V
 ot:Oth g w V
 hw:wf.heap.size≤w.heap.size
 hg:wf.heap.size≤g
theorem KO.step {B g:Nat} {wf w V V':World} {S:Nat→Prop} (h:KO B g wf w V) (hB:B≤wf.heap.size) (hc:Chg S V V') (hS:∀ k,S k→w.heap.size≤k∨k=g∨(B≤k∧is5 V k)):KO B g wf w V':=by
 have h1:=h.hw
 have h2:=h.hg
 have h3:=h.ot.size
 refine ⟨h.kp.step hB hc (fun k hk=>?_),⟨Nat.le_trans h3 hc.flat.size,fun k hk hne hn=>(hc.same k (by omega) (fun hs=>?_)).trans (h.ot.same k hk hne hn)⟩,h1,h2⟩
 · rcases hS k hk with h'|h'|h'
   · exact .inl (by omega)
   · exact .inl (by omega)
   · exact .inr h'
 · rcases hS k hs with h'|h'|⟨_,cur,fr,h'⟩
   · omega
   · exact hne h'
   · rw [h.ot.same k hk hne hn] at h'
     exact hn ⟨cur,fr,h'⟩
theorem KO.later {B g:Nat} {wf w V V':World} (h:KO B g wf w V) (hB:B≤wf.heap.size) (hb:Below V.heap.size V V'):KO B g wf w V':=h.step hB (S:=fun _=>False) (Chg.of_below hb) (fun k h=>h.elim)
structure MI (wm wf:World) (B Bo b g:Nat) (R:Nat→Prop) (cs:List Value) (s0:Pl.Rx) (T pre:List En) (Z:Nat→Prop) (V:World):Prop where
 ex:∃ n us out rest va vc ua uc,Mrg Bo B (fun k=>Z k∨(k<b∧¬R k)) g (Bo+1) cs n us out rest va vc ua uc V∧MP s0 T pre n us out rest
 tk:Boxed V Bo 104 (.func (.func 78) #[] #[.pointer (some ⟨g,0,none⟩)])
 kp:KO B g wf wm V
theorem chg_apart {b:Nat} {Z:Nat→Prop} {X Y:World} (hA:Apart b Z X Y):Chg (fun k=>¬(k<b∨Z k)) X Y:=⟨hA.flat,fun k hk hn=>hA.same k hk (Classical.not_not.1 hn)⟩
theorem MI.apart {wm wf:World} {B Bo b g:Nat} {R:Nat→Prop} {cs:List Value} {s0:Pl.Rx} {T pre:List En} {Z:Nat→Prop} {X Y:World} (h:MI wm wf B Bo b g R cs s0 T pre Z X) (hA:Apart b Z X Y) (hB:B≤wf.heap.size) (hw:wm.heap.size≤b) (hb:Bo<b):MI wm wf B Bo b g R cs s0 T pre Z Y:=by
 obtain ⟨n,us,out,rest,va,vc,ua,uc,hM,hP⟩:=h.ex
 refine ⟨⟨n,us,out,rest,va,vc,ua,uc,hM.moved (fun k hk ho=>hA.same k hk (ho.elim .inr (fun h=>.inl h.1))),hP⟩,(hA.same Bo h.tk.lt (.inl hb)).trans h.tk,h.kp.step hB (chg_apart hA) (fun k hk=>.inl ?_)⟩
 rcases Nat.lt_or_ge k b with h1|h1
 · exact absurd (Or.inl h1) hk
 · omega
theorem ze6 {wm wf:World} {B Bo b g:Nat} {R:Nat→Prop} {cs:List Value} {s0:Pl.Rx} {T pre:List En} {Z:Nat→Prop} {W2 V We:World} {x:En} {n:Int} {us:List Int} {out rest:List En} {va ua:Option Addr} {vc uc:Nat}
 (hM:Mrg Bo B (fun k=>(Z k∨(k<b∧¬R k))∨(V.heap.size≤k∧k<We.heap.size)) g (Bo+1) cs n us out rest va vc ua uc We) (hV:W2.heap.size≤V.heap.size) (hP:MP s0 T (pre++[x]) n us out rest) (hT:Boxed We Bo 104 (.func (.func 78) #[] #[.pointer (some ⟨g,0,none⟩)])) (hK:KO B g wf wm We) (hC:Chg (fun k=>Z k∨(k<b∧¬R k)) W2 We) (hZ:∀ k,Z k→k<W2.heap.size) :
 ∃ Z',Mine b R Z W2 Z' We∧MI wm wf B Bo b g R cs s0 T (pre++[x]) Z' We :=
 ⟨_,Mine.of_chg hC (fun k h=>h) hZ,⟨⟨_,_,_,_,_,_,_,_,hM.mono (own_next hV),hP⟩,hT,hK⟩⟩
theorem mrg_push {Bo B:Nat} {own:Nat→Prop} {g bo:Nat} {cs:List Value} {n:Int} {us:List Int} {out rest:List En} {x:En} {va:Option Addr} {vc:Nat} {ua:Option Addr} {uc:Nat} {V w2:World} {L:Nat} {v':Value} {tmp:Obj}
 (h:Mrg Bo B own g bo cs n us out (x::rest) va vc ua uc V) (hL:out.length=L) (hown:w2.ownsRow Bo 74 2 v' (L+1) (zbb out++[.int .i64 x.f,.slice x.a x.bs.length x.c])) (hgrow:(V.alloc tmp).grownBy w2 (Value.slice va L vc).ownBlock) (hat:v'.ownBlock=(Value.slice va L vc).ownBlock∨v'.ownBlock=some (V.alloc tmp).heap.size) :
 ∃ va5 vc5,v'=.slice va5 (L+1) vc5∧Boxed w2 bo 23 (.slice va L vc)∧Hid (RowE w2 Bo va5 (out++[x]).length vc5 (out++[x])∧Chg (lies va) V w2∧(∀ k,lies va5 k→lies va k∨V.heap.size≤k)):=by
 have hr:=h.row
 have hb:=h.bx
 rw [hL] at hr hb
 obtain ⟨va5,vc5,e,hr5,hC5,hN5⟩:=push_step tmp hr hown hgrow hat
 refine ⟨va5,vc5,e,(hC5.same _ hb.lt (fun h'=>?_)).trans hb,hr5,hC5,hN5⟩
 obtain ⟨_,_,_,cur,e2⟩:=zaj hr h'
 exact absurd (za2 hb e2) (by decide)
set_option maxRecDepth 100000 in
set_option maxHeartbeats 4000000 in
theorem merged_any (wf w:World) (B g:Nat) (cs:List Value) (s0:Pl.Rx) (hl0:s0.l=[]) (ua:Option Addr) (uc:Nat) (T:List En) (lb:Array Value) (R:Nat→Prop) (Sp:List En→Prop) (hRw:∀ k,R k→k<w.heap.size) (hR:∀ k,R k→∃ cur,w.heap[k]? = some (.cells cur 74 (0,0)))
 (hseq:zch Fence.wide 5 Try.prog 87 lb (fun x:En=>#[Value.agg #[.int .i64 x.f,.slice x.a x.bs.length x.c]]) R (fun ys=>ys=T) Sp (fun q=>q <+: T) w)
 (hbox:Box w g 27 (.int .i64 s0.n::.slice ua s0.u.length uc::cs)) (hfam:Fam w B (⟨0,ua,uc,s0.u⟩::T)) (hk:Keep B wf w) (hB:B≤wf.heap.size) (hg:wf.heap.size≤g)
 (n0:0≤s0.n) (nb:s0.n+(tot T:Int)≤1125899906842624) (ub:s0.u.length+tot T≤140737488351232) (cb:T.length*32≤140737488351232) (bd:∀ e∈T,0≤e.f∧e.f+(e.bs.length:Int)≤1125899906842624) :
 Calls Try.prog 79 #[.func (.func 87) #[] lb,.func (.func 78) #[] #[.pointer (some ⟨g,0,none⟩)]] w fun e W'=>∃ n us out va vc ua' uc' own,e=.returned (.slice va out.length vc)∧Mrg w.heap.size B own g (w.heap.size+1) cs n us out [] va vc ua' uc' W'∧MP s0 T T n us out []∧Keep B wf W'∧Oth g w W':=by
 obtain ⟨i0,hi,hz0,hz1,hz2⟩:=info_parts Try.infoPc
 have bT:=(Boxed.new w 104 (.func (.func 78) #[] #[.pointer (some ⟨g,0,none⟩)])).alloc (.cells #[.slice none 0 0] 23)
 have bO:=Boxed.new (w.alloc (.cells #[.func (.func 78) #[] #[.pointer (some ⟨g,0,none⟩)]] 104)) 23 (.slice none 0 0)
 simp only [World.size_alloc] at bO
 have hB0:Below w.heap.size w ((w.alloc (.cells #[.func (.func 78) #[] #[.pointer (some ⟨g,0,none⟩)]] 104)).alloc (.cells #[.slice none 0 0] 23)):=((Below.refl _ w).alloc (Nat.le_refl _) _).alloc (by simp) _
 have hsz:((w.alloc (.cells #[.func (.func 78) #[] #[.pointer (some ⟨g,0,none⟩)]] 104)).alloc (.cells #[.slice none 0 0] 23)).heap.size=w.heap.size+2:=by simp
 obtain ⟨W0,hW0⟩:∃ W0,(w.alloc (.cells #[.func (.func 78) #[] #[.pointer (some ⟨g,0,none⟩)]] 104)).alloc (.cells #[.slice none 0 0] 23)=W0:=⟨_,rfl⟩
 rw [hW0] at bT bO hB0 hsz
 have hgw:g<w.heap.size:=hbox.lt
 have hwf:=hk.bel.size
 have hI0:MI w wf B w.heap.size W0.heap.size g R cs s0 T [] (fun _=>False) W0:=by
  have hnR:∀ k (t:TypeId),t≠74→(∃ cur fr,w.heap[k]? = some (.cells cur t fr))→¬R k:=fun k t ht ⟨cur,fr,e⟩ hr=>by
   obtain ⟨c,e2⟩:=hR k hr
   exact ht (za2 e e2)
  refine ⟨⟨s0.n,s0.u,[],T,none,0,ua,uc,⟨bO,RowE.nil _ _,hbox.later hB0,hfam.later hB0,fun k hk=>(by obtain ⟨_,_,e⟩:=hk;cases e),?_,?_,?_⟩,⟨rfl,?_,n0,by simpa [tot] using nb,by simpa [tot] using ub,by simpa using cb,by simpa using bd⟩⟩,bT,⟨hk.trans (Keep.of_below hB0 (by omega)),⟨hB0.size,fun k hk _ _=>hB0.block k hk⟩,hwf,hg⟩⟩
  · intro x hx k hl
    obtain ⟨_,_,hlt,cur,e⟩:=(hfam.mine x (by simpa using hx)).lies hl
    exact .inr ⟨by omega,hnR k 5 (by decide) ⟨_,_,e⟩⟩
  · exact .inr ⟨by omega,hnR g 27 (by decide) ⟨_,_,hbox⟩⟩
  · exact .inr ⟨by omega,fun h=>by have:=hRw _ h;omega⟩
  · show s0=⟨s0.n,s0.u,[]⟩
    rw [← hl0]
 clear hbox hfam hk n0 nb ub cb bd hR
 refine (callsIn_wide (n:=6)).1 ?_
 refine callsIn_of_wp_marks Try.func79 rfl trivial ?_ rfl
 simp only [Try.ntmps79,List.size_toArray,List.length_cons,List.length_nil,Nat.reduceAdd,Nat.reduceSub,Array.replicate_succ,Array.replicate_zero,List.push_toArray,List.append_toArray,List.nil_append,List.cons_append]
 gi_wp2
 refine zf4 ?_
 gi_wp2
 refine wpIn_label ?_
 gi_wp2
 clear hW0
 refine zcz (F:=Fence.wide) (n:=6) rfl (by omega) (gf:=87) (lb:=lb) rfl trivial (enters_of Try.func87 (by kernel_rfl) rfl) hseq hB0 (fun _=>rfl)
  (fun k hk=>by have:=hRw k hk;omega)
  (fun pre Z V=>MI w wf B w.heap.size W0.heap.size g R cs s0 T pre Z V)
  (fun c pre Z V=>False)
  ?hI (fun _ _ _ _ _ h _=>h) hI0 ?round ?done ?stop
 case hI =>
  rintro pre Z X Y h hA
  exact h.apart hA hB (by omega) (by omega)
 case round =>
  rintro l pre x Z W1 hl hll hz hMI hG
  obtain ⟨n,us,out,rest0,va,vc,ua1,uc1,hM,hP⟩:=hMI.ex
  have htk:=hMI.tk
  have hkp:=hMI.kp
  obtain ⟨rest,rfl⟩:∃ rest,rest0=x::rest:=by
   have h1:=hP.tt
   rw [h1] at hG
   have h2:=List.prefix_append_right_inj pre |>.1 hG
   cases rest0 with
   | nil=>simp at h2
   | cons a r=>simp at h2;exact ⟨r,by rw [h2]⟩
  clear hMI hG hI0 bT bO hseq hB0
  unfold zci
  gi_wp2
  refine ⟨Mine.alloc (fun k hk=>(hz k hk).2.1) _,?_⟩
  intro W2 hg2 hr2
  have hs2:W1.heap.size+1≤W2.heap.size:=by have:=hg2.size;simp at this;exact this
  have hmv:∀ k,k<W1.heap.size→k≠l→W2.heap[k]? = W1.heap[k]?:=fun k hk hne=>(hg2.block k (by simp;omega) (fun e=>hne (by cases e;rfl))).trans (Below.heap_alloc _ _ _ hk)
  have M2:Mrg w.heap.size B (fun k=>Z k∨(k<W0.heap.size∧¬R k)) g (w.heap.size+1) cs n us out (x::rest) va vc ua1 uc1 W2:=hM.moved (fun k hk ho=>hmv k hk (ho.elim (fun h=>(hz k h).2.2) (fun h=>by omega)))
  have bT2:Boxed W2 w.heap.size 104 (.func (.func 78) #[] #[.pointer (some ⟨g,0,none⟩)]):=(hmv _ htk.lt (by omega)).trans htk
  have hp2:Box W2 W1.heap.size 74 [.int .i64 x.f,.slice x.a x.bs.length x.c]:=(hg2.block W1.heap.size (by simp) (fun e=>by cases e;omega)).trans (Box.new W1 74 [.int .i64 x.f,.slice x.a x.bs.length x.c])
  have K2:KO B g wf w W2:=hkp.step hB ((Chg.of_below (zaa (Below.refl _ _) _)).trans (Chg.of_grown hg2 (fun k e=>by cases e;rfl)):Chg (fun k=>k=l) W1 W2) (fun k e=>.inl (by subst e;omega))
  have hZ2:∀ k,Z k→k<W2.heap.size:=fun k hk=>by have:=(hz k hk).2.1;omega
  have hx2:=M2.fam.mine x (by simp)
  have hu2:=M2.fam.mine ⟨0,ua1,uc1,us⟩ (List.mem_cons_self ..)
  clear hM htk hkp hg2 hr2 hmv hz
  obtain ⟨L,hL⟩:∃ L,out.length=L:=⟨_,rfl⟩
  obtain ⟨ul,hul⟩:∃ ul,us.length=ul:=⟨_,rfl⟩
  have cO:W2.cell? ⟨w.heap.size+1,0,none⟩=some (.slice va L vc):=by rw [← hL];exact M2.bx.cell
  have cT:=bT2.cell
  have cP0:=hp2.cell 0 rfl
  have cP1:=hp2.cell 1 rfl
  have hcb:=hP.cb
  rw [hL] at hcb
  simp only [List.length_cons] at hcb
  obtain ⟨la,hla⟩:∃ la:Int,(L:Int)-1=la:=⟨_,rfl⟩
  have hlab:-1≤la∧la≤140737488351232:=by omega
  have hns:W2.heap.size=W2.heap.size:=rfl
  by_cases hxn:x.f=n
  · have hnb:=hP.nb
    have hub:=hP.ub
    rw [zbs] at hnb hub
    have cF:=filled1_yes B g n ua1 us.length uc1 us cs x.a x.bs.length x.c x.bs W2 M2.box hu2.row (by have:=K2.kp.bel.size;omega) hx2.ok.1 rfl (by omega) ⟨hP.n0,by omega⟩
    rw [hul] at cF
    have HM:Hid (Mrg _ _ _ _ _ _ _ _ _ _ _ _ _ _ _):=M2
    have HQ:Hid (Boxed W2 w.heap.size 104 (.func (.func 78) #[] #[.pointer (some ⟨g,0,none⟩)])∧KO B g wf w W2∧(∀ k,Z k→k<W2.heap.size)):=⟨bT2,K2,hZ2⟩
    have HP:Hid (MP s0 T pre n us out (x::rest)):=hP
    have HUL:Hid (us.length=ul):=hul
    have HXN:Hid (x.f=n):=hxn
    clear M2 bT2 K2 hZ2 hP hul hu2 hx2 hnb hub hp2
    rw [hxn] at cP0
    clear hxn
    gi_wp2_with (refine ⟨trivial,?_⟩;gi_at_call 78;refine (zb0 cF).mono ?_;rintro e W3 ⟨rfl,va3,vc3,hb3,hr3,hC3,hN3⟩)
    have hlen:(us++x.bs).length=ul+x.bs.length:=by rw [List.length_append,HUL.out]
    have hne:∀ k (t:TypeId),t≠5→(∃ cur fr,W2.heap[k]? = some (.cells cur t fr))→¬lies ua1 k:=fun k t ht ⟨cur,fr,e⟩ hl=>by
     obtain ⟨_,_,_,c,e2⟩:=(HM.out.fam.mine ⟨0,ua1,uc1,us⟩ (List.mem_cons_self ..)).lies hl
     exact ht (za2 e e2)
    have hub:=HP.out.ub
    rw [zbs] at hub
    refine ze6 (V:=W2) (HM.out.take (n':=n+(x.bs.length:Int)) (ua':=va3) (uc':=vc3) hC3 (by omega) (by rw [hlen];exact hb3) (by rw [hlen];exact hr3) (by rw [List.length_append];omega) hN3) (Nat.le_refl _) (HP.out.take HXN.out) ((hC3.same _ HQ.out.1.lt (fun h=>?_)).trans HQ.out.1) (HQ.out.2.1.step hB hC3 (fun k h=>?_)) (hC3.mono (fun k _ h=>?_)) HQ.out.2.2
    · rcases h with h|h
      · omega
      · exact hne _ 104 (by decide) ⟨_,_,HQ.out.1⟩ h
    · rcases h with h|h
      · exact .inr (.inl h)
      · obtain ⟨_,h1,_,cur,e2⟩:=(HM.out.fam.mine ⟨0,ua1,uc1,us⟩ (List.mem_cons_self ..)).lies h
        exact .inr (.inr ⟨h1,cur,_,e2⟩)
    · rcases h with h|h
      · subst h;exact HM.out.og
      · exact HM.out.fo _ (List.mem_cons_self ..) k h
  · have cF:=filled1_no g n (.slice ua1 us.length uc1) cs x.f x.a x.bs.length x.c W2 M2.box hxn
    have HM:Hid (Mrg _ _ _ _ _ _ _ _ _ _ _ _ _ _ _):=M2
    have HQ:Hid (Boxed W2 w.heap.size 104 (.func (.func 78) #[] #[.pointer (some ⟨g,0,none⟩)])∧KO B g wf w W2∧(∀ k,Z k→k<W2.heap.size)∧Box W2 W1.heap.size 74 [.int .i64 x.f,.slice x.a x.bs.length x.c]):=⟨bT2,K2,hZ2,hp2⟩
    have HP:Hid (MP s0 T pre n us out (x::rest)):=hP
    have HXN:Hid (x.f≠n):=hxn
    clear M2 bT2 K2 hZ2 hP hul hu2 hx2 hp2 hxn
    gi_wp2_with (refine ⟨trivial,?_⟩;gi_at_call 78;refine (zb0 cF).mono ?_;rintro e W3 ⟨rfl,hB3⟩)
    have HB3:Hid (Below W2.heap.size W2 W3):=hB3
    clear hB3 cF cT cO cP0 cP1
    rcases List.eq_nil_or_concat out with ho|⟨init,q,ho⟩
    · subst ho
      have HLN:Hid (([]:List En).length=L):=hL
      have hL0:L≤0:=by rw [← hL];simp
      clear hL
      have hneg:¬(0≤la):=by omega
      have hneg2:decide (0≤la)=false:=by simpa using hneg
      obtain ⟨S,hS⟩:∃ S:World→Prop,S=fun W'=>True:=⟨_,rfl⟩
      obtain ⟨y0,y1,y2,y12,y13⟩:(∀ {ps} (ev:EV),ev (.tmp 7)=.int .i64 la→Yl Try.prog S ev ⟨some 18,.move (.tmp 7),3,ps,#[],none⟩ ((.int .i64 la)))∧(∀ {ps} (ev:EV),ev (.tmp 18)=.int .i64 la→ev (.const (Go.Value.int Go.IntKind.i64 0))=(Go.Value.int Go.IntKind.i64 0)→Yl Try.prog S ev ⟨some 19,.binOp .geq 3 (.tmp 18) (.const (.int .i64 0)) 3,4,ps,#[⟨0,.data⟩],none⟩ ((.bool false)))∧(∀ {ps} (ev:EV),ev (.tmp 19)=.bool false→Yl Try.prog S ev ⟨some 20,.move (.tmp 19),4,ps,#[⟨1,.data⟩],none⟩ ((.bool false)))∧(∀ {ps} (ev:EV),ev (.tmp 20)=.bool false→ev (.const (Go.Value.bool false))=(Go.Value.bool false)→Yl Try.prog S ev ⟨some 30,.pick (.tmp 20) (.tmp 29) (.const (.bool false)),4,ps,#[⟨2,.data⟩,⟨11,.data⟩],none⟩ ((.bool false)))∧(∀ {ps} (ev:EV),ev (.tmp 30)=.bool false→Yl Try.prog S ev ⟨some 17,.assign (.tmp 30),4,ps,#[⟨12,.data⟩,⟨7,.chain⟩],none⟩ ((.bool false))):=by
       refine ⟨?_,?_,?_,?_,?_⟩<;>(intros;intro W hSw;rw [hS] at hSw;(try dsimp only at hSw);go_simp<;>with_reducible rfl)
      refine zb6 (fun W'=>S W'∧Below W3.heap.size W3 W') (by kernel_rfl) (by kernel_rfl) (by kernel_rfl) ?hC ?_
      case hC=>exact ⟨by rw [hS];trivial,by repeat (first|with_reducible exact Below.refl _ _|with_reducible assumption|with_reducible refine Below.drew ?_|with_reducible refine zad ?_ _|with_reducible refine zaa ?_ _)⟩
      refine zab (by kernel_rfl) (fun W hW=>y0 _ rfl W hW.1) ?_
      try simp only [Act.put,qA,qZ,qS]
      refine zab (by kernel_rfl) (fun W hW=>y1 _ rfl rfl W hW.1) ?_
      try simp only [Act.put,qA,qZ,qS]
      refine zab (by kernel_rfl) (fun W hW=>y2 _ rfl W hW.1) ?_
      try simp only [Act.put,qA,qZ,qS]
      refine zap (by kernel_rfl) ?_
      try simp only [Act.put,qA,qZ,qS]
      refine zap (by kernel_rfl) ?_
      try simp only [Act.put,qA,qZ,qS]
      refine zap (by kernel_rfl) ?_
      try simp only [Act.put,qA,qZ,qS]
      refine zap (by kernel_rfl) ?_
      try simp only [Act.put,qA,qZ,qS]
      refine zap (by kernel_rfl) ?_
      try simp only [Act.put,qA,qZ,qS]
      refine zap (by kernel_rfl) ?_
      try simp only [Act.put,qA,qZ,qS]
      refine zap (by kernel_rfl) ?_
      try simp only [Act.put,qA,qZ,qS]
      refine zap (by kernel_rfl) ?_
      try simp only [Act.put,qA,qZ,qS]
      refine zap (by kernel_rfl) ?_
      try simp only [Act.put,qA,qZ,qS]
      refine zab (by kernel_rfl) (fun W hW=>y12 _ rfl rfl W hW.1) ?_
      try simp only [Act.put,qA,qZ,qS]
      refine zab (by kernel_rfl) (fun W hW=>y13 _ rfl W hW.1) ?_
      try simp only [Act.put,qA,qZ,qS]
      refine zb2 ?_
      intro W4 hC4
      have HB4:Hid (Below W2.heap.size W2 W4):=Below.on HB3.out hC4.2
      clear hC4 y0 y1 y2 y12 y13 hS HB3 hneg hneg2
      have M4:=HM.out.moved (V':=W4) (fun k hk _=>HB4.out.block k hk)
      have hp4:=HQ.out.2.2.2.later HB4.out
      have HR:Hid (RowE W4 w.heap.size va (L) vc ([]:List En)):=by have:=M4.row;rw [HLN.out] at this;exact this
      have cO:W4.cell? ⟨w.heap.size+1,0,none⟩=some (.slice va (L) vc):=by have:=M4.bx.cell;rw [HLN.out] at this;exact this
      have cP0:=hp4.cell 0 rfl
      have cP1:=hp4.cell 1 rfl
      have hw4:w.heap.size≤W4.heap.size:=by have:=M4.bx.lt;omega
      have HM4:Hid (Mrg _ _ _ _ _ _ _ _ _ _ _ _ _ _ _):=M4
      clear M4 hp4
      have hx1:L+1≤maxLen:=by unfold maxLen;omega
      have hx2:(L+1)*32≤140737488355328:=by omega
      have hx3:w.heap.size≤(W4.alloc (.cells #[.int .i64 x.f,.slice x.a x.bs.length x.c] 74)).heap.size:=by simp;omega
      have HRA:Hid ((W4.alloc (.cells #[.int .i64 x.f,.slice x.a x.bs.length x.c] 74)).ownsRow w.heap.size 74 2 (.slice va (L) vc) (L) (zbb ([]:List En))):=HR.out.alloc _
      have HX:Hid (_∧_∧_):=⟨hx1,hx2,hx3⟩
      have HCN:Hid (∀ _,_):=zde W4 [.int .i64 x.f,.slice x.a x.bs.length x.c] 74
      clear hx1 hx2 hx3
      gi_wp2_with (gi_at_builtin;refine wpListIn_append_own_at _ rfl _ _ 23 rfl w.heap.size 74 i0 (.agg #[.int .i64 0,.slice none 0 0]) 2 32 Try.underlying23 hi hz0 hz1 hz2 rfl (by decide) (.slice va (L) vc) (L) (zbb ([]:List En)) rfl HRA.out ⟨W4.heap.size,0,none⟩ 1 1 [.int .i64 x.f,.slice x.a x.bs.length x.c] rfl rfl HCN.out (ecells1 x) HX.out.1 HX.out.2.1 HX.out.2.2 ?_;intro v' w5 hown hgrow _ hat;obtain ⟨va5,vc5,rfl,hbx5,H5⟩:=mrg_push HM4.out HLN.out hown hgrow hat;have hc5:=hbx5.cell;have hf5:=hbx5.frozen;clear hown hgrow hat hbx5)
      obtain ⟨hr5,hC5,hN5⟩:=H5.out
      have hj:=HM4.out.push hC5 hr5 hN5
      have hlen:(([]:List En)++[x]).length=L+1:=by rw [List.length_append,HLN.out];rfl
      rw [hlen] at hj
      have hne:∀ k (t:TypeId),t≠74→(∃ cur fr,W4.heap[k]? = some (.cells cur t fr))→¬lies va k:=fun k t ht ⟨cur,fr,e⟩ hl=>by
       obtain ⟨_,_,_,c,e2⟩:=zaj HR.out hl
       exact ht (za2 e e2)
      have hbT4:=zcg HQ.out.1 HB4.out HQ.out.1.lt
      refine ze6 hj HB4.out.size (HP.out.push HXN.out (fun init q h=>by simp at h)) ((Below.heap_setCell w5 ⟨w.heap.size+1,0,none⟩ _ w.heap.size (by simp)).trans ((hC5.same _ hbT4.lt (hne _ 104 (by decide) ⟨_,_,hbT4⟩)).trans hbT4)) (((HQ.out.2.1.later hB HB4.out).step hB hC5 (fun k hk=>.inl ?_)).step hB (Chg.set (S:=fun k=>k=w.heap.size+1) _ _ _ _ rfl) (fun k hk=>.inl (by omega))) (((Chg.of_below HB4.out).trans (hC5.mono (fun k _ h=>HM4.out.ro k h))).trans (Chg.set _ _ _ _ HM4.out.ob)) HQ.out.2.2.1
      have:=(zaj HR.out hk).2.1
      omega
    · rw [List.concat_eq_append] at ho
      subst ho
      obtain ⟨i,hi0⟩:∃ i,init.length=i:=⟨_,rfl⟩
      have hLi:L=i+1:=by rw [← hL,List.length_append,hi0];rfl
      obtain rfl:la=(i:Int):=by omega
      obtain ⟨gl,rfl⟩:∃ gl,va=some ⟨gl,0,none⟩:=by
       rcases HM.out.row.at with e|⟨gl,e,_⟩
       · have h1:=HM.out.row.nil0 e
         have h2:=HM.out.row.max.1
         rw [List.length_append] at h2
         simp at h2
         omega
       · exact ⟨gl,e⟩
      obtain ⟨t,ht⟩:∃ t,q.f+(q.bs.length:Int)=t:=⟨_,rfl⟩
      have hbq:=HP.out.bd q (by simp)
      have cS:=fun W=>zbu q.f q.a q.bs.length q.c W t (by rw [← ht];exact zbg (by omega) (by omega))
      have hqc:=fun (W:World) (hW:Below W2.heap.size W2 W)=>(HM.out.moved (V':=W) (fun k hk _=>hW.block k hk)).row.cellE init.length q (by simp)
      rw [hi0] at hqc
      obtain ⟨S,hS⟩:∃ S:World→Prop,S=fun W'=>W'.cell? ⟨w.heap.size+1,0,none⟩=some (.slice (some ⟨gl,0,none⟩) L vc)∧W'.cell? ⟨W1.heap.size,0,none⟩=some (.int .i64 x.f)∧W'.cell? ⟨W1.heap.size,1,none⟩=some (.slice x.a x.bs.length x.c)∧W'.cell? ⟨gl,i*2,none⟩=some (.int .i64 q.f)∧W'.cell? ⟨gl,i*2+1,none⟩=some (.slice q.a q.bs.length q.c):=⟨_,rfl⟩
      have HSK:Hid (∀ W,Below W2.heap.size W2 W→S W):=fun W hW=>by
       have h0:=(HM.out.moved (V':=W) (fun k hk _=>hW.block k hk)).bx.cell
       have h1:=HQ.out.2.2.2.later hW
       rw [hL] at h0
       rw [hS]
       exact ⟨h0,h1.cell 0 rfl,h1.cell 1 rfl,(hqc W hW).1,(hqc W hW).2⟩
      have HQB:Hid (q.f+(q.bs.length:Int)=t∧init.length=i∧(init++[q]).length=L):=⟨ht,hi0,hL⟩
      have hge:(0:Int)≤(i:Int):=by omega
      have hii:(i:Int)<(L:Int):=by omega
      have hii2:i<L:=by omega
      clear ht hi0 hL hqc hbq hla hLi
      have hfl:=fun W=>fld1 q.f t W
      by_cases htx:t=x.f
      · have HTX:Hid (t=x.f):=htx
        have tb:(t==x.f)=true:=by simpa using htx
        have tb2:decide (t=x.f)=true:=by simpa using htx
        clear htx
        obtain ⟨y0,y1,y2,y3,y4,y5,y6,y8,y9,y10,y11,y12,y13⟩:(∀ {ps} (ev:EV),ev (.tmp 7)=.int .i64 (i:Int)→Yl Try.prog S ev ⟨some 18,.move (.tmp 7),3,ps,#[],none⟩ ((.int .i64 (i:Int))))∧(∀ {ps} (ev:EV),ev (.tmp 18)=.int .i64 (i:Int)→ev (.const (Go.Value.int Go.IntKind.i64 0))=(Go.Value.int Go.IntKind.i64 0)→Yl Try.prog S ev ⟨some 19,.binOp .geq 3 (.tmp 18) (.const (.int .i64 0)) 3,4,ps,#[⟨0,.data⟩],none⟩ ((.bool true)))∧(∀ {ps} (ev:EV),ev (.tmp 19)=.bool true→Yl Try.prog S ev ⟨some 20,.move (.tmp 19),4,ps,#[⟨1,.data⟩],none⟩ ((.bool true)))∧(∀ {ps} (ev:EV),ev (.tmp 5)=.pointer (some ⟨w.heap.size+1,0,none⟩)→Yl Try.prog S ev ⟨some 21,.load 23 (.tmp 5),23,ps,#[⟨2,.guard⟩],some (2,true)⟩ ((.slice (some ⟨gl,0,none⟩) L vc)))∧(∀ {ps} (ev:EV),ev (.tmp 7)=.int .i64 (i:Int)→Yl Try.prog S ev ⟨some 22,.move (.tmp 7),3,ps,#[⟨2,.guard⟩],some (2,true)⟩ ((.int .i64 (i:Int))))∧(∀ {ps} (ev:EV),ev (.tmp 21)=.slice (some ⟨gl,0,none⟩) L vc→ev (.tmp 22)=.int .i64 (i:Int)→Yl Try.prog S ev ⟨some 23,.indexAddr 23 (.tmp 21) (.tmp 22),0,ps,#[⟨3,.data⟩,⟨4,.data⟩,⟨2,.guard⟩],some (2,true)⟩ ((.pointer (some ⟨gl,i*2,none⟩))))∧(∀ {ps} (ev:EV),ev (.tmp 23)=.pointer (some ⟨gl,i*2,none⟩)→Yl Try.prog S ev ⟨some 24,.load 74 (.tmp 23),74,ps,#[⟨5,.data⟩,⟨2,.guard⟩],some (2,true)⟩ ((.agg #[.int .i64 q.f,.slice q.a q.bs.length q.c])))∧(∀ {ps} (ev:EV),ev (.tmp 25)=.agg #[.int .i64 q.f,.int .i64 t]→Yl Try.prog S ev ⟨some 26,.field 78 (.tmp 25) 1,3,ps,#[⟨7,.data⟩,⟨2,.guard⟩],some (2,true)⟩ ((.int .i64 t)))∧(∀ {ps} (ev:EV),ev (.tmp 6)=.pointer (some ⟨W1.heap.size,0,none⟩)→Yl Try.prog S ev ⟨some 27,.fieldAddr 74 (.tmp 6) 0,0,ps,#[⟨2,.guard⟩],some (2,true)⟩ ((.pointer (some ⟨W1.heap.size,0,none⟩))))∧(∀ {ps} (ev:EV),ev (.tmp 27)=.pointer (some ⟨W1.heap.size,0,none⟩)→Yl Try.prog S ev ⟨some 28,.load 3 (.tmp 27),3,ps,#[⟨9,.data⟩,⟨2,.guard⟩],some (2,true)⟩ ((.int .i64 x.f)))∧(∀ {ps} (ev:EV),ev (.tmp 26)=.int .i64 t→ev (.tmp 28)=.int .i64 x.f→Yl Try.prog S ev ⟨some 29,.binOp .eql 3 (.tmp 26) (.tmp 28) 3,4,ps,#[⟨8,.data⟩,⟨10,.data⟩,⟨2,.guard⟩],some (2,true)⟩ ((.bool true)))∧(∀ {ps} (ev:EV),ev (.tmp 20)=.bool true→ev (.tmp 29)=.bool true→ev (.const (Go.Value.bool false))=(Go.Value.bool false)→Yl Try.prog S ev ⟨some 30,.pick (.tmp 20) (.tmp 29) (.const (.bool false)),4,ps,#[⟨2,.data⟩,⟨11,.data⟩],none⟩ ((.bool true)))∧(∀ {ps} (ev:EV),ev (.tmp 30)=.bool true→Yl Try.prog S ev ⟨some 17,.assign (.tmp 30),4,ps,#[⟨12,.data⟩,⟨7,.chain⟩],none⟩ ((.bool true))):=by
         refine ⟨?_,?_,?_,?_,?_,?_,?_,?_,?_,?_,?_,?_,?_⟩<;>(intros;intro W hSw;rw [hS] at hSw;(try dsimp only at hSw);go_simp<;>with_reducible rfl)
        refine zb6 (fun W'=>S W'∧Below W3.heap.size W3 W') (by kernel_rfl) (by kernel_rfl) (by kernel_rfl) ?hC ?_
        case hC=>exact ⟨HSK.out _ (Below.on HB3.out (by repeat (first|with_reducible exact Below.refl _ _|with_reducible assumption|with_reducible refine Below.drew ?_|with_reducible refine zad ?_ _|with_reducible refine zaa ?_ _))),by repeat (first|with_reducible exact Below.refl _ _|with_reducible assumption|with_reducible refine Below.drew ?_|with_reducible refine zad ?_ _|with_reducible refine zaa ?_ _)⟩
        refine zab (by kernel_rfl) (fun W hW=>y0 _ rfl W hW.1) ?_
        try simp only [Act.put,qA,qZ,qS]
        refine zab (by kernel_rfl) (fun W hW=>y1 _ rfl rfl W hW.1) ?_
        try simp only [Act.put,qA,qZ,qS]
        refine zab (by kernel_rfl) (fun W hW=>y2 _ rfl W hW.1) ?_
        try simp only [Act.put,qA,qZ,qS]
        refine zab (by kernel_rfl) (fun W hW=>y3 _ rfl W hW.1) ?_
        try simp only [Act.put,qA,qZ,qS]
        refine zab (by kernel_rfl) (fun W hW=>y4 _ rfl W hW.1) ?_
        try simp only [Act.put,qA,qZ,qS]
        refine zab (by kernel_rfl) (fun W hW=>y5 _ rfl rfl W hW.1) ?_
        try simp only [Act.put,qA,qZ,qS]
        refine zab (by kernel_rfl) (fun W hW=>y6 _ rfl W hW.1) ?_
        try simp only [Act.put,qA,qZ,qS]
        refine zg0 (v:=.agg #[.int .i64 q.f,.int .i64 t]) (f:=55) (args:=#[.agg #[.int .i64 q.f,.slice q.a q.bs.length q.c]]) (by kernel_rfl) ?hy7q1 ?hc7q1 ?rest7q1
        case hy7q1=>(intro w hSw;(try dsimp only at hSw);first|(go_simp;done)|(go_simp;with_reducible rfl))
        case hc7q1=>(intro w hSw;refine (cS w).mono ?_;rintro e w1 ⟨rfl,hB⟩;exact ⟨rfl,HSK.out _ (Below.on HB3.out (Below.on hSw.2 hB)),Below.on hSw.2 hB⟩)
        try simp only [Act.put,qA,qZ,qS]
        refine zab (by kernel_rfl) (fun W hW=>y8 _ rfl W hW.1) ?_
        try simp only [Act.put,qA,qZ,qS]
        refine zab (by kernel_rfl) (fun W hW=>y9 _ rfl W hW.1) ?_
        try simp only [Act.put,qA,qZ,qS]
        refine zab (by kernel_rfl) (fun W hW=>y10 _ rfl W hW.1) ?_
        try simp only [Act.put,qA,qZ,qS]
        refine zab (by kernel_rfl) (fun W hW=>y11 _ rfl rfl W hW.1) ?_
        try simp only [Act.put,qA,qZ,qS]
        refine zab (by kernel_rfl) (fun W hW=>y12 _ rfl rfl rfl W hW.1) ?_
        try simp only [Act.put,qA,qZ,qS]
        refine zab (by kernel_rfl) (fun W hW=>y13 _ rfl W hW.1) ?_
        try simp only [Act.put,qA,qZ,qS]
        refine zb2 ?_
        intro W4 hC4
        have HB4:Hid (Below W2.heap.size W2 W4):=Below.on HB3.out hC4.2
        clear hC4 y0 y1 y2 y3 y4 y5 y6 y8 y9 y10 y11 y12 y13 HB3 tb tb2 cS
        gi_wp2
        have z0:∀ {ps:String} (ev:Operand→Value),ev (.tmp 5)=.pointer (some ⟨w.heap.size+1,0,none⟩)→∀ W,S W→(execOp ev ⟨some 31,.load 23 (.tmp 5),23,ps,#[],none⟩).run Try.prog W=.ok (.value (.slice (some ⟨gl,0,none⟩) L vc)) W:=by
         intro ps ev h0 W hSw
         rw [hS] at hSw
         try dsimp only at hSw
         first|(go_simp;done)|(go_simp;with_reducible rfl)
        have z1:∀ {ps:String} (ev:Operand→Value),ev (.tmp 7)=.int .i64 (i:Int)→∀ W,S W→(execOp ev ⟨some 32,.move (.tmp 7),3,ps,#[],none⟩).run Try.prog W=.ok (.value (.int .i64 (i:Int))) W:=by
         intro ps ev h0 W hSw
         rw [hS] at hSw
         try dsimp only at hSw
         first|(go_simp;done)|(go_simp;with_reducible rfl)
        have z2:∀ {ps:String} (ev:Operand→Value),ev (.tmp 5)=.pointer (some ⟨w.heap.size+1,0,none⟩)→∀ W,S W→(execOp ev ⟨some 33,.load 23 (.tmp 5),23,ps,#[],none⟩).run Try.prog W=.ok (.value (.slice (some ⟨gl,0,none⟩) L vc)) W:=by
         intro ps ev h0 W hSw
         rw [hS] at hSw
         try dsimp only at hSw
         first|(go_simp;done)|(go_simp;with_reducible rfl)
        have z3:∀ {ps:String} (ev:Operand→Value),ev (.tmp 7)=.int .i64 (i:Int)→∀ W,S W→(execOp ev ⟨some 34,.move (.tmp 7),3,ps,#[],none⟩).run Try.prog W=.ok (.value (.int .i64 (i:Int))) W:=by
         intro ps ev h0 W hSw
         rw [hS] at hSw
         try dsimp only at hSw
         first|(go_simp;done)|(go_simp;with_reducible rfl)
        have z4:∀ {ps:String} (ev:Operand→Value),ev (.tmp 33)=.slice (some ⟨gl,0,none⟩) L vc→ev (.tmp 34)=.int .i64 (i:Int)→∀ W,S W→(execOp ev ⟨some 35,.indexAddr 23 (.tmp 33) (.tmp 34),0,ps,#[⟨2,.data⟩,⟨3,.data⟩],none⟩).run Try.prog W=.ok (.value (.pointer (some ⟨gl,i*2,none⟩))) W:=by
         intro ps ev h0 h1 W hSw
         rw [hS] at hSw
         try dsimp only at hSw
         first|(go_simp;done)|(go_simp;with_reducible rfl)
        have z5:∀ {ps:String} (ev:Operand→Value),ev (.tmp 35)=.pointer (some ⟨gl,i*2,none⟩)→∀ W,S W→(execOp ev ⟨some 36,.fieldAddr 74 (.tmp 35) 1,0,ps,#[⟨4,.data⟩],none⟩).run Try.prog W=.ok (.value (.pointer (some ⟨gl,i*2+1,none⟩))) W:=by
         intro ps ev h0 W hSw
         rw [hS] at hSw
         try dsimp only at hSw
         first|(go_simp;done)|(go_simp;with_reducible rfl)
        have z6:∀ {ps:String} (ev:Operand→Value),ev (.tmp 36)=.pointer (some ⟨gl,i*2+1,none⟩)→∀ W,S W→(execOp ev ⟨some 37,.load 22 (.tmp 36),22,ps,#[⟨5,.data⟩],none⟩).run Try.prog W=.ok (.value (.slice q.a q.bs.length q.c)) W:=by
         intro ps ev h0 W hSw
         rw [hS] at hSw
         try dsimp only at hSw
         first|(go_simp;done)|(go_simp;with_reducible rfl)
        have z7:∀ {ps:String} (ev:Operand→Value),ev (.tmp 6)=.pointer (some ⟨W1.heap.size,0,none⟩)→∀ W,S W→(execOp ev ⟨some 38,.fieldAddr 74 (.tmp 6) 1,0,ps,#[],none⟩).run Try.prog W=.ok (.value (.pointer (some ⟨W1.heap.size,1,none⟩))) W:=by
         intro ps ev h0 W hSw
         rw [hS] at hSw
         try dsimp only at hSw
         first|(go_simp;done)|(go_simp;with_reducible rfl)
        have z8:∀ {ps:String} (ev:Operand→Value),ev (.tmp 38)=.pointer (some ⟨W1.heap.size,1,none⟩)→∀ W,S W→(execOp ev ⟨some 39,.load 22 (.tmp 38),22,ps,#[⟨7,.data⟩],none⟩).run Try.prog W=.ok (.value (.slice x.a x.bs.length x.c)) W:=by
         intro ps ev h0 W hSw
         rw [hS] at hSw
         try dsimp only at hSw
         first|(go_simp;done)|(go_simp;with_reducible rfl)
        refine wpIn_round_X S 12 (by kernel_rfl) (by kernel_rfl) (HSK.out _ (Below.on HB4.out (by repeat (first|with_reducible exact Below.refl _ _|with_reducible assumption|with_reducible refine Below.drew ?_|with_reducible refine zad ?_ _|with_reducible refine zaa ?_ _)))) (fun hHeld=>?_)
        obtain ⟨W5,hW5⟩:∃ W5,W4.drew=W5:=⟨_,rfl⟩
        have HB5:Hid (Below W2.heap.size W2 W5):=by rw [← hW5];exact Below.drew HB4.out
        rw [hW5] at hHeld ⊢
        clear hW5
        refine zk 0 (z0 _ rfl) ?_
        try simp only [Act.put,qA,qZ,qS]
        refine zk 1 (z1 _ rfl) ?_
        try simp only [Act.put,qA,qZ,qS]
        refine zk 2 (z2 _ rfl) ?_
        try simp only [Act.put,qA,qZ,qS]
        refine zk 3 (z3 _ rfl) ?_
        try simp only [Act.put,qA,qZ,qS]
        refine zk 4 (z4 _ rfl rfl) ?_
        try simp only [Act.put,qA,qZ,qS]
        refine zk 5 (z5 _ rfl) ?_
        try simp only [Act.put,qA,qZ,qS]
        refine zk 6 (z6 _ rfl) ?_
        try simp only [Act.put,qA,qZ,qS]
        refine zk 7 (z7 _ rfl) ?_
        try simp only [Act.put,qA,qZ,qS]
        refine zk 8 (z8 _ rfl) ?_
        try simp only [Act.put,qA,qZ,qS]
        have M5:=HM.out.moved (V':=W5) (fun k hk _=>HB5.out.block k hk)
        have hq5:=M5.fam.mine q (by simp)
        have hx5:=M5.fam.mine x (by simp)
        have hub:=HP.out.ub
        rw [zbs,zdw,zbs] at hub
        refine zah (i:=9) (o:=⟨some 40,.call { callee:=.builtin .append,args:=#[.tmp 37,.tmp 39],argTypes:=#[22,22]},22,_,#[⟨6,.data⟩,⟨8,.data⟩],none⟩) (by kernel_rfl) rfl (fun K hK=>?_)
        refine step_appA rfl (.tmp 37) (.tmp 39) rfl B q.a q.bs.length q.c q.bs x.a x.bs.length x.c x.bs rfl rfl hq5.row hx5.ok.1.1 rfl hx5.ok.1.2.1 (by omega) (by have:=HQ.out.2.1.kp.bel.size;have:=HB5.out.size;omega) ?_
        intro qa qc w6 hr6 hC6 hN6
        have hlq:(q.bs++x.bs).length=q.bs.length+x.bs.length:=List.length_append
        have hj:=M5.join hC6 (by rw [hlq];exact hr6) (by rw [hlq];omega) hN6
        rw [hlq,HQB.out.2.1] at hj
        have hq5n:∀ k (t:TypeId),t≠5→(∃ cur fr,W5.heap[k]? = some (.cells cur t fr))→¬lies q.a k:=fun k t ht ⟨cur,fr,e⟩ hl=>by
         obtain ⟨_,_,_,c,e2⟩:=hq5.lies hl
         exact ht (za2 e e2)
        have hgl5:∃ cur fr,W5.heap[gl]? = some (.cells cur 74 fr):=by
         obtain ⟨_,_,_,cur,e⟩:=zaj M5.row (k:=gl) ⟨_,_,rfl⟩
         exact ⟨_,_,e⟩
        have hp5:=HQ.out.2.2.2.later HB5.out
        have hS6:S w6:=by
         have:=HSK.out _ HB5.out
         rw [hS] at this ⊢
         have e1:w6.heap[w.heap.size+1]? = W5.heap[w.heap.size+1]?:=hC6.same _ M5.bx.lt (hq5n _ 23 (by decide) ⟨_,_,M5.bx⟩)
         have e2:w6.heap[W1.heap.size]? = W5.heap[W1.heap.size]?:=hC6.same _ hp5.lt (hq5n _ 74 (by decide) ⟨_,_,hp5⟩)
         have e3:w6.heap[gl]? = W5.heap[gl]?:=by
          obtain ⟨cur,fr,e⟩:=hgl5
          exact hC6.same _ (Array.getElem?_eq_some_iff.1 e).1 (hq5n _ 74 (by decide) ⟨_,_,e⟩)
         exact ⟨(World.cell?_of_block (w:=W5) e1).trans this.1,(World.cell?_of_block (w:=W5) e2).trans this.2.1,(World.cell?_of_block (w:=W5) e2).trans this.2.2.1,(World.cell?_of_block (w:=W5) e3).trans this.2.2.2.1,(World.cell?_of_block (w:=W5) e3).trans this.2.2.2.2⟩
        have hrow6:RowE w6 w.heap.size (some ⟨gl,0,none⟩) (init++[q]).length vc (init++[q]):=zaz M5.row (fun k hk hlk=>hC6.same k hk (by
         obtain ⟨_,_,_,cur,e2⟩:=zaj M5.row hlk
         exact hq5n k 74 (by decide) ⟨_,_,e2⟩))
        have zc:=(hrow6.cellE init.length q (by simp)).2
        rw [HQB.out.2.1] at zc
        have zf:=hrow6.frozen (i*2+1)
        have hown5:∀ k,lies q.a k→Z k∨(k<W0.heap.size∧¬R k):=fun k hk=>M5.fo q (by simp) k hk
        have hbT5:=zcg HQ.out.1 HB5.out HQ.out.1.lt
        have hK5:=HQ.out.2.1.later hB HB5.out
        have hCC:Chg (fun k=>Z k∨(k<W0.heap.size∧¬R k)) W2 (w6.setCell ⟨gl,i*2+1,none⟩ (.slice qa (q.bs.length+x.bs.length) qc)):=((Chg.of_below HB5.out).trans (hC6.mono (fun k _ h=>hown5 k h))).trans (Chg.set _ _ _ _ (M5.ro gl ⟨_,_,rfl⟩))
        have hgT:gl≠w.heap.size:=fun e=>by obtain ⟨cur,fr,e2⟩:=hgl5;rw [e] at e2;exact absurd (za2 hbT5 e2) (by decide)
        have hTT:Boxed (w6.setCell ⟨gl,i*2+1,none⟩ (.slice qa (q.bs.length+x.bs.length) qc)) w.heap.size 104 (.func (.func 78) #[] #[.pointer (some ⟨g,0,none⟩)]):=(Below.heap_setCell w6 ⟨gl,_,none⟩ _ w.heap.size (fun e=>hgT e.symm)).trans ((hC6.same _ hbT5.lt (hq5n _ 104 (by decide) ⟨_,_,hbT5⟩)).trans hbT5)
        have hKK:KO B g wf w (w6.setCell ⟨gl,i*2+1,none⟩ (.slice qa (q.bs.length+x.bs.length) qc)):=(hK5.step hB hC6 (fun k hk=>by obtain ⟨_,h1,_,cur,e2⟩:=hq5.lies hk;exact .inr (.inr ⟨h1,cur,_,e2⟩))).step hB (Chg.set (S:=fun k=>k=gl) _ _ _ _ rfl) (fun k hk=>.inl (by have h1:=(zaj M5.row (k:=gl) ⟨_,_,rfl⟩).2.1;omega))
        have HE:Hid (∃ Z',Mine W0.heap.size R Z W2 Z' (w6.setCell ⟨gl,i*2+1,none⟩ (.slice qa (q.bs.length+x.bs.length) qc))∧MI w wf B w.heap.size W0.heap.size g R cs s0 T (pre++[x]) Z' (w6.setCell ⟨gl,i*2+1,none⟩ (.slice qa (q.bs.length+x.bs.length) qc))):=ze6 hj HB5.out.size (HP.out.join qa qc HXN.out (HQB.out.1.trans HTX.out)) hTT hKK hCC HQ.out.2.2.1
        clear hj hq5 hx5 hr6 hC6 hN6 hgl5 hp5 hrow6 hown5 hbT5 hK5 hCC hTT hKK M5 hq5n hgT hub
        refine hK.out _ _ ⟨fun _=>hS6,?_⟩
        clear hK K hHeld
        try simp only [Act.put,qA,qZ,qS]
        refine zah (i:=10) (o:=⟨some 41,.indexAddr 23 (.tmp 31) (.tmp 32),0,_,#[⟨0,.data⟩,⟨1,.data⟩,⟨0,.phase⟩,⟨1,.phase⟩,⟨2,.phase⟩,⟨3,.phase⟩,⟨4,.phase⟩,⟨5,.phase⟩,⟨6,.phase⟩,⟨7,.phase⟩,⟨8,.phase⟩,⟨9,.phase⟩],none⟩) (by kernel_rfl) rfl (fun K hK=>?_)
        rw [if_pos (by rfl)]
        go_simp
        refine hK.out _ _ ⟨fun _=>hS6,?_⟩
        clear hK K
        try simp only [Act.put,qA,qZ,qS]
        refine zah (i:=11) (o:=⟨some 42,.fieldAddr 74 (.tmp 41) 1,0,_,#[⟨10,.data⟩,⟨0,.phase⟩,⟨1,.phase⟩,⟨2,.phase⟩,⟨3,.phase⟩,⟨4,.phase⟩,⟨5,.phase⟩,⟨6,.phase⟩,⟨7,.phase⟩,⟨8,.phase⟩,⟨9,.phase⟩],none⟩) (by kernel_rfl) rfl (fun K hK=>?_)
        rw [if_pos (by rfl)]
        go_simp
        refine hK.out _ _ ⟨fun _=>hS6,?_⟩
        clear hK K
        try simp only [Act.put,qA,qZ,qS]
        refine zah (i:=12) (o:=⟨none,.store 22 (.tmp 42) (.tmp 40),0,_,#[⟨11,.data⟩,⟨9,.data⟩,⟨9,.chain⟩,⟨0,.phase⟩,⟨1,.phase⟩,⟨2,.phase⟩,⟨3,.phase⟩,⟨4,.phase⟩,⟨5,.phase⟩,⟨6,.phase⟩,⟨7,.phase⟩,⟨8,.phase⟩,⟨9,.phase⟩],none⟩) (by kernel_rfl) rfl (fun K hK=>?_)
        rw [if_pos (by rfl)]
        go_simp
        refine hK.out _ _ ⟨fun h=>absurd rfl h,?_⟩
        clear hK K
        refine wpXN_done (by kernel_rfl) ?_ _
        try simp only [Act.put,qA,qZ,qS]
        clear z0 z1 z2 z3 z4 z5 z6 z7 z8 hS6 zc zf hS HSK
        gi_wp2
        exact HE.out
      · have HTX:Hid (¬t=x.f):=htx
        have tb:(t==x.f)=false:=by simpa using htx
        have tb2:decide (t=x.f)=false:=by simpa using htx
        clear htx
        obtain ⟨y0,y1,y2,y3,y4,y5,y6,y8,y9,y10,y11,y12,y13⟩:(∀ {ps} (ev:EV),ev (.tmp 7)=.int .i64 (i:Int)→Yl Try.prog S ev ⟨some 18,.move (.tmp 7),3,ps,#[],none⟩ ((.int .i64 (i:Int))))∧(∀ {ps} (ev:EV),ev (.tmp 18)=.int .i64 (i:Int)→ev (.const (Go.Value.int Go.IntKind.i64 0))=(Go.Value.int Go.IntKind.i64 0)→Yl Try.prog S ev ⟨some 19,.binOp .geq 3 (.tmp 18) (.const (.int .i64 0)) 3,4,ps,#[⟨0,.data⟩],none⟩ ((.bool true)))∧(∀ {ps} (ev:EV),ev (.tmp 19)=.bool true→Yl Try.prog S ev ⟨some 20,.move (.tmp 19),4,ps,#[⟨1,.data⟩],none⟩ ((.bool true)))∧(∀ {ps} (ev:EV),ev (.tmp 5)=.pointer (some ⟨w.heap.size+1,0,none⟩)→Yl Try.prog S ev ⟨some 21,.load 23 (.tmp 5),23,ps,#[⟨2,.guard⟩],some (2,true)⟩ ((.slice (some ⟨gl,0,none⟩) L vc)))∧(∀ {ps} (ev:EV),ev (.tmp 7)=.int .i64 (i:Int)→Yl Try.prog S ev ⟨some 22,.move (.tmp 7),3,ps,#[⟨2,.guard⟩],some (2,true)⟩ ((.int .i64 (i:Int))))∧(∀ {ps} (ev:EV),ev (.tmp 21)=.slice (some ⟨gl,0,none⟩) L vc→ev (.tmp 22)=.int .i64 (i:Int)→Yl Try.prog S ev ⟨some 23,.indexAddr 23 (.tmp 21) (.tmp 22),0,ps,#[⟨3,.data⟩,⟨4,.data⟩,⟨2,.guard⟩],some (2,true)⟩ ((.pointer (some ⟨gl,i*2,none⟩))))∧(∀ {ps} (ev:EV),ev (.tmp 23)=.pointer (some ⟨gl,i*2,none⟩)→Yl Try.prog S ev ⟨some 24,.load 74 (.tmp 23),74,ps,#[⟨5,.data⟩,⟨2,.guard⟩],some (2,true)⟩ ((.agg #[.int .i64 q.f,.slice q.a q.bs.length q.c])))∧(∀ {ps} (ev:EV),ev (.tmp 25)=.agg #[.int .i64 q.f,.int .i64 t]→Yl Try.prog S ev ⟨some 26,.field 78 (.tmp 25) 1,3,ps,#[⟨7,.data⟩,⟨2,.guard⟩],some (2,true)⟩ ((.int .i64 t)))∧(∀ {ps} (ev:EV),ev (.tmp 6)=.pointer (some ⟨W1.heap.size,0,none⟩)→Yl Try.prog S ev ⟨some 27,.fieldAddr 74 (.tmp 6) 0,0,ps,#[⟨2,.guard⟩],some (2,true)⟩ ((.pointer (some ⟨W1.heap.size,0,none⟩))))∧(∀ {ps} (ev:EV),ev (.tmp 27)=.pointer (some ⟨W1.heap.size,0,none⟩)→Yl Try.prog S ev ⟨some 28,.load 3 (.tmp 27),3,ps,#[⟨9,.data⟩,⟨2,.guard⟩],some (2,true)⟩ ((.int .i64 x.f)))∧(∀ {ps} (ev:EV),ev (.tmp 26)=.int .i64 t→ev (.tmp 28)=.int .i64 x.f→Yl Try.prog S ev ⟨some 29,.binOp .eql 3 (.tmp 26) (.tmp 28) 3,4,ps,#[⟨8,.data⟩,⟨10,.data⟩,⟨2,.guard⟩],some (2,true)⟩ ((.bool false)))∧(∀ {ps} (ev:EV),ev (.tmp 20)=.bool true→ev (.tmp 29)=.bool false→ev (.const (Go.Value.bool false))=(Go.Value.bool false)→Yl Try.prog S ev ⟨some 30,.pick (.tmp 20) (.tmp 29) (.const (.bool false)),4,ps,#[⟨2,.data⟩,⟨11,.data⟩],none⟩ ((.bool false)))∧(∀ {ps} (ev:EV),ev (.tmp 30)=.bool false→Yl Try.prog S ev ⟨some 17,.assign (.tmp 30),4,ps,#[⟨12,.data⟩,⟨7,.chain⟩],none⟩ ((.bool false))):=by
         refine ⟨?_,?_,?_,?_,?_,?_,?_,?_,?_,?_,?_,?_,?_⟩<;>(intros;intro W hSw;rw [hS] at hSw;(try dsimp only at hSw);go_simp<;>with_reducible rfl)
        refine zb6 (fun W'=>S W'∧Below W3.heap.size W3 W') (by kernel_rfl) (by kernel_rfl) (by kernel_rfl) ?hC ?_
        case hC=>exact ⟨HSK.out _ (Below.on HB3.out (by repeat (first|with_reducible exact Below.refl _ _|with_reducible assumption|with_reducible refine Below.drew ?_|with_reducible refine zad ?_ _|with_reducible refine zaa ?_ _))),by repeat (first|with_reducible exact Below.refl _ _|with_reducible assumption|with_reducible refine Below.drew ?_|with_reducible refine zad ?_ _|with_reducible refine zaa ?_ _)⟩
        refine zab (by kernel_rfl) (fun W hW=>y0 _ rfl W hW.1) ?_
        try simp only [Act.put,qA,qZ,qS]
        refine zab (by kernel_rfl) (fun W hW=>y1 _ rfl rfl W hW.1) ?_
        try simp only [Act.put,qA,qZ,qS]
        refine zab (by kernel_rfl) (fun W hW=>y2 _ rfl W hW.1) ?_
        try simp only [Act.put,qA,qZ,qS]
        refine zab (by kernel_rfl) (fun W hW=>y3 _ rfl W hW.1) ?_
        try simp only [Act.put,qA,qZ,qS]
        refine zab (by kernel_rfl) (fun W hW=>y4 _ rfl W hW.1) ?_
        try simp only [Act.put,qA,qZ,qS]
        refine zab (by kernel_rfl) (fun W hW=>y5 _ rfl rfl W hW.1) ?_
        try simp only [Act.put,qA,qZ,qS]
        refine zab (by kernel_rfl) (fun W hW=>y6 _ rfl W hW.1) ?_
        try simp only [Act.put,qA,qZ,qS]
        refine zg0 (v:=.agg #[.int .i64 q.f,.int .i64 t]) (f:=55) (args:=#[.agg #[.int .i64 q.f,.slice q.a q.bs.length q.c]]) (by kernel_rfl) ?hy7q2 ?hc7q2 ?rest7q2
        case hy7q2=>(intro w hSw;(try dsimp only at hSw);first|(go_simp;done)|(go_simp;with_reducible rfl))
        case hc7q2=>(intro w hSw;refine (cS w).mono ?_;rintro e w1 ⟨rfl,hB⟩;exact ⟨rfl,HSK.out _ (Below.on HB3.out (Below.on hSw.2 hB)),Below.on hSw.2 hB⟩)
        try simp only [Act.put,qA,qZ,qS]
        refine zab (by kernel_rfl) (fun W hW=>y8 _ rfl W hW.1) ?_
        try simp only [Act.put,qA,qZ,qS]
        refine zab (by kernel_rfl) (fun W hW=>y9 _ rfl W hW.1) ?_
        try simp only [Act.put,qA,qZ,qS]
        refine zab (by kernel_rfl) (fun W hW=>y10 _ rfl W hW.1) ?_
        try simp only [Act.put,qA,qZ,qS]
        refine zab (by kernel_rfl) (fun W hW=>y11 _ rfl rfl W hW.1) ?_
        try simp only [Act.put,qA,qZ,qS]
        refine zab (by kernel_rfl) (fun W hW=>y12 _ rfl rfl rfl W hW.1) ?_
        try simp only [Act.put,qA,qZ,qS]
        refine zab (by kernel_rfl) (fun W hW=>y13 _ rfl W hW.1) ?_
        try simp only [Act.put,qA,qZ,qS]
        refine zb2 ?_
        intro W4 hC4
        have HB4:Hid (Below W2.heap.size W2 W4):=Below.on HB3.out hC4.2
        have HLN:Hid ((init++[q]).length=L):=HQB.out.2.2
        clear hC4 y0 y1 y2 y3 y4 y5 y6 y8 y9 y10 y11 y12 y13 HB3 tb tb2 cS hS HSK
        have M4:=HM.out.moved (V':=W4) (fun k hk _=>HB4.out.block k hk)
        have hp4:=HQ.out.2.2.2.later HB4.out
        have HR:Hid (RowE W4 w.heap.size (some ⟨gl,0,none⟩) (L) vc (init++[q])):=by have:=M4.row;rw [HLN.out] at this;exact this
        have cO:W4.cell? ⟨w.heap.size+1,0,none⟩=some (.slice (some ⟨gl,0,none⟩) (L) vc):=by have:=M4.bx.cell;rw [HLN.out] at this;exact this
        have cP0:=hp4.cell 0 rfl
        have cP1:=hp4.cell 1 rfl
        have hw4:w.heap.size≤W4.heap.size:=by have:=M4.bx.lt;omega
        have HM4:Hid (Mrg _ _ _ _ _ _ _ _ _ _ _ _ _ _ _):=M4
        clear M4 hp4
        have hx1:L+1≤maxLen:=by unfold maxLen;omega
        have hx2:(L+1)*32≤140737488355328:=by omega
        have hx3:w.heap.size≤(W4.alloc (.cells #[.int .i64 x.f,.slice x.a x.bs.length x.c] 74)).heap.size:=by simp;omega
        have HRA:Hid ((W4.alloc (.cells #[.int .i64 x.f,.slice x.a x.bs.length x.c] 74)).ownsRow w.heap.size 74 2 (.slice (some ⟨gl,0,none⟩) (L) vc) (L) (zbb (init++[q]))):=HR.out.alloc _
        have HX:Hid (_∧_∧_):=⟨hx1,hx2,hx3⟩
        have HCN:Hid (∀ _,_):=zde W4 [.int .i64 x.f,.slice x.a x.bs.length x.c] 74
        clear hx1 hx2 hx3
        gi_wp2_with (gi_at_builtin;refine wpListIn_append_own_at _ rfl _ _ 23 rfl w.heap.size 74 i0 (.agg #[.int .i64 0,.slice none 0 0]) 2 32 Try.underlying23 hi hz0 hz1 hz2 rfl (by decide) (.slice (some ⟨gl,0,none⟩) (L) vc) (L) (zbb (init++[q])) rfl HRA.out ⟨W4.heap.size,0,none⟩ 1 1 [.int .i64 x.f,.slice x.a x.bs.length x.c] rfl rfl HCN.out (ecells1 x) HX.out.1 HX.out.2.1 HX.out.2.2 ?_;intro v' w5 hown hgrow _ hat;obtain ⟨va5,vc5,rfl,hbx5,H5⟩:=mrg_push HM4.out HLN.out hown hgrow hat;have hc5:=hbx5.cell;have hf5:=hbx5.frozen;clear hown hgrow hat hbx5)
        obtain ⟨hr5,hC5,hN5⟩:=H5.out
        have hj:=HM4.out.push hC5 hr5 hN5
        have hlen:((init++[q])++[x]).length=L+1:=by rw [List.length_append,HLN.out];rfl
        rw [hlen] at hj
        have hne:∀ k (t:TypeId),t≠74→(∃ cur fr,W4.heap[k]? = some (.cells cur t fr))→¬lies (some ⟨gl,0,none⟩) k:=fun k t ht ⟨cur,fr,e⟩ hl=>by
         obtain ⟨_,_,_,c,e2⟩:=zaj HR.out hl
         exact ht (za2 e e2)
        have hbT4:=zcg HQ.out.1 HB4.out HQ.out.1.lt
        refine ze6 hj HB4.out.size (HP.out.push HXN.out (fun init' q' h=>by have h2:=List.append_inj_right' h rfl;simp at h2;subst h2;rw [HQB.out.1];exact HTX.out)) ((Below.heap_setCell w5 ⟨w.heap.size+1,0,none⟩ _ w.heap.size (by simp)).trans ((hC5.same _ hbT4.lt (hne _ 104 (by decide) ⟨_,_,hbT4⟩)).trans hbT4)) (((HQ.out.2.1.later hB HB4.out).step hB hC5 (fun k hk=>.inl ?_)).step hB (Chg.set (S:=fun k=>k=w.heap.size+1) _ _ _ _ rfl) (fun k hk=>.inl (by omega))) (((Chg.of_below HB4.out).trans (hC5.mono (fun k _ h=>HM4.out.ro k h))).trans (Chg.set _ _ _ _ HM4.out.ob)) HQ.out.2.2.1
        have:=(zaj HR.out hk).2.1
        omega
 case done =>
  rintro D ys Z V hD hz hys hMI hK
  obtain rfl:=hys.symm
  obtain ⟨n,us,out,rest0,va,vc,ua1,uc1,hM,hP⟩:=hMI.ex
  obtain rfl:rest0=[]:=by
   have:=congrArg List.length hP.tt
   simp at this
   exact this
  have cO:=hM.bx.cell
  have HM:Hid (_∧_):=⟨hM,hP⟩
  have HKP:=hMI.kp
  clear hI0 bT bO hMI hM hP hseq
  gi_wp2
  refine ⟨by simp,.inl ⟨_,_,rfl,run_takeDeferred hK,?_⟩⟩
  refine ⟨_,results_tmp rfl _ _ _,n,us,out,va,vc,ua1,uc1,_,rfl,HM.out.1.moved (fun k hk ho=>World.putObj_heap_other (fun e=>?_)),HM.out.2,(HKP.step hB (Chg.of_grown (grownBy_putObj' _ _ _) (fun k e=>by cases e;rfl):Chg (fun k=>k=D) _ _) (fun k e=>.inl (by subst e;omega))).kp,(HKP.step hB (Chg.of_grown (grownBy_putObj' _ _ _) (fun k e=>by cases e;rfl):Chg (fun k=>k=D) _ _) (fun k e=>.inl (by subst e;omega))).ot⟩
  rcases ho with h|h
  · exact (hz k h).2.2 e
  · omega
 case stop =>
  rintro D c pre Z V hD hz hpre h hK
  exact h.elim
open Go.Shelf
attribute [local go_sem] Oper.semAt_some
set_option maxRecDepth 100000 in
set_option maxHeartbeats 4000000 in
theorem both_deep (n:Nat) (Ba Bb ca cb:Nat) (A B:Option Addr) (ea eb:List En) (w0 w:World) (hA:za5 w0 A ea) (hB:za5 w0 B eb) (hac:ea.length≤ca) (hbc:eb.length≤cb) (hal:ea.length≤maxLen) (hbl:eb.length≤maxLen) (hw:Below w0.heap.size w0 w) (hBa:w.cell? ⟨Ba,0,none⟩=some (.slice A ea.length ca)) (hBb:w.cell? ⟨Bb,0,none⟩=some (.slice B eb.length cb)) (T:List En) (hT:bothE (ea.length+eb.length) ea eb=T) :
 zch Fence.wide n Try.prog 87 #[.pointer (some ⟨Ba,0,none⟩),.pointer (some ⟨Bb,0,none⟩)] (fun x:En=>#[Value.agg #[.int .i64 x.f,.slice x.a x.bs.length x.c]]) (fun k=>(lies A k∨lies B k)∧k<w0.heap.size) (fun ys=>ys=T) (fun pre=>pre <+: T) (fun q=>q <+: T) w:=by
 intro l J Jx W hW hJ hJx hY h0
 have hw1:Hid (Below w0.heap.size w0 W):=hw.trans (hW.mono hw.size)
 have hBa1:W.cell? ⟨Ba,0,none⟩=some (.slice A ea.length ca):=(hW.cell (p:=⟨Ba,0,none⟩) (zac hBa)).trans hBa
 have hBb1:W.cell? ⟨Bb,0,none⟩=some (.slice B eb.length cb):=(hW.cell (p:=⟨Bb,0,none⟩) (zac hBb)).trans hBb
 have HJ0:Hid (zdt W.heap.size J):=hJ
 have HY:Hid (∀ _,_):=hY
 have H0:Hid (zdh w0 W W A B T J A ea.length ca B eb.length cb ea eb []):=⟨rfl,rfl,hac,hbc,hA,hB,fun k h=>.inl h,fun k h=>.inr h,hT.symm,_,h0,fun k h=>h.elim,Nat.le_refl _,fun _ _ _=>rfl⟩
 obtain ⟨m0,hm0⟩:∃ m0,ea.length=m0:=⟨_,rfl⟩
 obtain ⟨p0,hp0⟩:∃ p0,eb.length=p0:=⟨_,rfl⟩
 rw [hm0] at hBa1 H0 hal
 rw [hp0] at hBb1 H0 hbl
 unfold maxLen at hal hbl
 clear hA hB hac hbc hw hW hJ hJx hY h0 hBa hBb hT hm0 hp0
 refine callsIn_of_wp Try.func87 rfl trivial ?_ rfl
 simp only [Try.ntmps87,List.size_toArray,List.length_cons,List.length_nil,Nat.reduceAdd,Nat.reduceSub,Array.replicate_succ,Array.replicate_zero,List.push_toArray,List.append_toArray,List.nil_append,List.cons_append]
 gi_wp2
 obtain ⟨S,hS⟩:∃ S:World→Prop,S=fun W'=>W'.cell? ⟨Ba,0,none⟩=some (.slice A m0 ca)∧W'.cell? ⟨Bb,0,none⟩=some (.slice B p0 cb):=⟨_,rfl⟩
 obtain ⟨y0,y1,y2,y3⟩:(∀ {ps} (ev:EV),ev (.tmp 1)=.pointer (some ⟨Ba,0,none⟩)→Yl Try.prog S ev ⟨some 6,.load 23 (.tmp 1),23,ps,#[],none⟩ ((.slice A m0 ca)))∧(∀ {ps} (ev:EV),ev (.tmp 2)=.pointer (some ⟨Bb,0,none⟩)→Yl Try.prog S ev ⟨some 7,.load 23 (.tmp 2),23,ps,#[⟨2,.gcOnly .lateStores⟩],none⟩ ((.slice B p0 cb)))∧(∀ {ps} (ev:EV),ev (.tmp 6)=.slice A m0 ca→Yl Try.prog S ev ⟨some 4,.assign (.tmp 6),23,ps,#[⟨0,.data⟩,⟨0,.phase⟩,⟨1,.textOnly .lateStores⟩],none⟩ ((.slice A m0 ca)))∧(∀ {ps} (ev:EV),ev (.tmp 7)=.slice B p0 cb→Yl Try.prog S ev ⟨some 5,.assign (.tmp 7),23,ps,#[⟨1,.data⟩,⟨2,.chain⟩,⟨0,.phase⟩,⟨1,.phase⟩,⟨2,.phase⟩],none⟩ ((.slice B p0 cb))):=by
  refine ⟨?_,?_,?_,?_⟩<;>(intros;intro W hSw;rw [hS] at hSw;(try dsimp only at hSw);go_simp<;>with_reducible rfl)
 refine zbi (fun W'=>S W'∧(Below 0 W W'∧W'.heap=W.heap)) (by kernel_rfl) (by kernel_rfl) (by kernel_rfl) ?hC ?_
 case hC=>exact ⟨by rw [hS];exact ⟨hBa1,hBb1⟩,Below.drew (Below.refl _ _),rfl⟩
 refine zab (by kernel_rfl) (fun W hW=>y0 _ rfl W hW.1) ?_
 try simp only [Act.put,qA,qZ,qS]
 refine zab (by kernel_rfl) (fun W hW=>y1 _ rfl W hW.1) ?_
 try simp only [Act.put,qA,qZ,qS]
 refine zab (by kernel_rfl) (fun W hW=>y2 _ rfl W hW.1) ?_
 try simp only [Act.put,qA,qZ,qS]
 refine zab (by kernel_rfl) (fun W hW=>y3 _ rfl W hW.1) ?_
 try simp only [Act.put,qA,qZ,qS]
 refine zb2 ?_
 intro W1 hC1
 have H1:Hid (zdh w0 W W1 A B T J A m0 ca B p0 cb ea eb []):=by
  obtain ⟨Z,z1,z2,z3,z4⟩:=H0.out.zz
  exact { H0.out with zz:=⟨Z,HJ0.out _ _ _ _ z1 (zcp hC1.2.1 hC1.2.2),by rw [hC1.2.2];exact z2,by rw [hC1.2.2];exact z3,by rw [hC1.2.2];exact z4⟩}
 clear hC1 H0 y0 y1 y2 y3 hS hBa1 hBb1
 gi_wp2
 gi_loopw [4,5] (fun v4 v5 wr=>∃ (na fa:Option Addr) (m nc p fc:Nat),v4=.slice na m nc∧v5=.slice fa p fc∧m≤9223372036854775807∧p≤9223372036854775807∧Hid (∃ nl fl pre,zdh w0 W wr A B T J na m nc fa p fc nl fl pre))
  (fun v4 v5 _=>slLen v4+slLen v5)
 case atStart=>exact ⟨A,B,m0,ca,p0,cb,rfl,rfl,hal,hbl,_,_,_,H1.out⟩
 case round =>
  clear H1 hal hbl
  obtain ⟨na,fa,m,nc,p,fc,rfl,rfl,hml,hpl,HI⟩:=hrel
  obtain ⟨nl,fl,pre,hI⟩:=HI.out
  clear HI
  cases nl with
  | nil =>
   obtain rfl:m=0:=by have:=hI.ml;simpa using this.symm
   cases fl with
   | nil =>
    obtain rfl:p=0:=by have:=hI.pl;simpa using this.symm
    obtain ⟨Z,hj,_⟩:=hI.zz
    have hTp:T=pre:=by have:=hI.tt;simpa [bothE] using this
    gi_wp2
    go_end0
    exact ⟨⟨_,rfl⟩,.inl ⟨_,Z,hTp.symm,hj⟩⟩
   | cons y r =>
    obtain ⟨fb,fo,hfa,hf0,hf1⟩:=hI.fe.head
    subst hfa
    have hfb:=(hI.fR fb ⟨_,_,rfl⟩)
    have hp0:0<p:=by have:=hI.pl;simp at this;omega
    obtain ⟨Z,hj,hz,hsz,hk⟩:=hI.zz
    have hbf:wr.heap[fb]? = w0.heap[fb]?:=(hk fb (zac hf0) hfb).trans (hw1.out.block fb (zac hf0))
    have cf0:wr.cell? ⟨fb,fo,none⟩=some (.int .i64 y.f):=(World.cell?_of_block (w:=w0) hbf).trans hf0
    have cf1:wr.cell? ⟨fb,fo+1,none⟩=some (.slice y.a y.bs.length y.c):=(World.cell?_of_block (w:=w0) hbf).trans hf1
    have hp1:¬(p=0):=by omega
    have hp2:¬((p:Int)=0):=by omega
    have hp3:(0:Int)<(p:Int):=by omega
    have HI:Hid (zdh _ _ _ _ _ _ _ _ _ _ _ _ _ _ _ _):=hI
    have hTT:T=(pre++[y])++bothE (p-1+0) r []:=by rw [hI.tt,both_a hI.pl,List.append_assoc];rfl
    have HTT:Hid (_=_):=hTT
    have HK:Hid ((∀ k,Z k→W.heap.size≤k∧k<wr.heap.size)∧W.heap.size≤wr.heap.size∧(∀ k,k<w0.heap.size→(lies A k∨lies B k)→wr.heap[k]? = W.heap[k]?)):=⟨hz,hsz,hk⟩
    have HJ1:Hid (J pre Z wr):=hj
    clear hI hz hsz hk hj hTT hf0 hf1 hbf hfb
    gi_wp2
    obtain ⟨S,hS⟩:∃ S:World→Prop,S=fun W'=>W'.cell? ⟨fb,fo,none⟩=some (.int .i64 y.f):=⟨_,rfl⟩
    obtain ⟨y0,y1,y2,y3,y18⟩:(∀ {ps} (ev:EV),ev (.tmp 4)=.slice na 0 nc→Yl Try.prog S ev ⟨some 16,.move (.tmp 4),23,ps,#[],none⟩ ((.slice na 0 nc)))∧(∀ {ps} (ev:EV),ev (.tmp 16)=.slice na 0 nc→Yl Try.prog S ev ⟨some 17,.call { callee:=.builtin .len,args:=#[.tmp 16],argTypes:=#[23]},3,ps,#[⟨0,.data⟩],none⟩ ((.int .i64 0)))∧(∀ {ps} (ev:EV),ev (.tmp 17)=.int .i64 0→ev (.const (Go.Value.int Go.IntKind.i64 0))=(Go.Value.int Go.IntKind.i64 0)→Yl Try.prog S ev ⟨some 18,.binOp .eql 3 (.tmp 17) (.const (.int .i64 0)) 3,4,ps,#[⟨1,.data⟩],none⟩ ((.bool true)))∧(∀ {ps} (ev:EV),ev (.tmp 18)=.bool true→Yl Try.prog S ev ⟨some 19,.move (.tmp 18),4,ps,#[⟨2,.data⟩],none⟩ ((.bool true)))∧(∀ {ps} (ev:EV),ev (.tmp 19)=.bool true→ev (.const (Go.Value.bool true))=(Go.Value.bool true)→Yl Try.prog S ev ⟨some 34,.pick (.tmp 19) (.const (.bool true)) (.tmp 33),4,ps,#[⟨3,.data⟩,⟨17,.data⟩],none⟩ ((.bool true))):=by
     refine ⟨?_,?_,?_,?_,?_⟩<;>(intros;intro W hSw;rw [hS] at hSw;(try dsimp only at hSw);go_simp<;>with_reducible rfl)
    refine zbi (fun W'=>S W'∧(Below 0 wr W'∧W'.heap=wr.heap)) (by kernel_rfl) (by kernel_rfl) (by kernel_rfl) ?hC ?_
    case hC=>exact ⟨by rw [hS];exact cf0,Below.drew (Below.refl _ _),rfl⟩
    refine zab (by kernel_rfl) (fun W hW=>y0 _ rfl W hW.1) ?_
    try simp only [Act.put,qA,qZ,qS]
    refine zab (by kernel_rfl) (fun W hW=>y1 _ rfl W hW.1) ?_
    try simp only [Act.put,qA,qZ,qS]
    refine zab (by kernel_rfl) (fun W hW=>y2 _ rfl rfl W hW.1) ?_
    try simp only [Act.put,qA,qZ,qS]
    refine zab (by kernel_rfl) (fun W hW=>y3 _ rfl W hW.1) ?_
    try simp only [Act.put,qA,qZ,qS]
    refine zap (by kernel_rfl) ?_
    try simp only [Act.put,qA,qZ,qS]
    refine zap (by kernel_rfl) ?_
    try simp only [Act.put,qA,qZ,qS]
    refine zap (by kernel_rfl) ?_
    try simp only [Act.put,qA,qZ,qS]
    refine zap (by kernel_rfl) ?_
    try simp only [Act.put,qA,qZ,qS]
    refine zap (by kernel_rfl) ?_
    try simp only [Act.put,qA,qZ,qS]
    refine zap (by kernel_rfl) ?_
    try simp only [Act.put,qA,qZ,qS]
    refine zap (by kernel_rfl) ?_
    try simp only [Act.put,qA,qZ,qS]
    refine zap (by kernel_rfl) ?_
    try simp only [Act.put,qA,qZ,qS]
    refine zap (by kernel_rfl) ?_
    try simp only [Act.put,qA,qZ,qS]
    refine zap (by kernel_rfl) ?_
    try simp only [Act.put,qA,qZ,qS]
    refine zap (by kernel_rfl) ?_
    try simp only [Act.put,qA,qZ,qS]
    refine zap (by kernel_rfl) ?_
    try simp only [Act.put,qA,qZ,qS]
    refine zap (by kernel_rfl) ?_
    try simp only [Act.put,qA,qZ,qS]
    refine zap (by kernel_rfl) ?_
    try simp only [Act.put,qA,qZ,qS]
    refine zab (by kernel_rfl) (fun W hW=>y18 _ rfl rfl W hW.1) ?_
    try simp only [Act.put,qA,qZ,qS]
    refine zb2 ?_
    intro W2 hC2
    have d0:W2.cell? ⟨fb,fo,none⟩=some (.int .i64 y.f):=by rw [World.cell?_of_block (w:=wr) (by rw [hC2.2.2])];exact cf0
    have d1:W2.cell? ⟨fb,fo+1,none⟩=some (.slice y.a y.bs.length y.c):=by rw [World.cell?_of_block (w:=wr) (by rw [hC2.2.2])];exact cf1
    have HC:Hid (Below 0 wr W2∧W2.heap=wr.heap):=hC2.2
    obtain ⟨fn,tmps,assign,body,hy,hR⟩:=HY.out pre y Z W2 (HJ0.out _ _ _ _ HJ1.out (zcp HC.out.1 HC.out.2)) (by rw [HC.out.2];exact HK.out.2.1) (by rw [HC.out.2];exact HK.out.1) (by rw [HTT.out];exact List.prefix_append _ _)
    have hsl:=fun W=>slE_l (some ⟨fb,fo,none⟩) p fc 1 1 rfl (by omega) W
    clear hC2 hS y0 y1 y2 y3 y18 cf0 cf1
    gi_wp2
    refine ⟨fun h=>by simp [Fence.wide] at h,hR.mono ?_⟩
    rintro e W3 ⟨Z',hM,(⟨rfl,hJ3⟩|⟨rfl,hJx3⟩)⟩
    · have HN:Hid (zdh w0 W W3 A B T J (cutE (some ⟨fb,fo,none⟩) fc 1) (p-1) (fc-1) (na) 0 nc r [] (pre++[y])):=by
       obtain ⟨hz,hsz,hk⟩:=HK.out
       have h1:=hM.flat.size
       rw [HC.out.2] at h1
       have hl1:=HI.out.pl
       simp at hl1
       have hc1:=HI.out.pc
       refine ⟨by omega,rfl,by omega,HI.out.mc,HI.out.fe.tail (by omega),HI.out.ne,fun k hk=>HI.out.fR k (zdk hk),HI.out.nR,HTT.out,Z',hJ3,fun k hk'=>⟨?_,hM.lt k hk'⟩,by omega,fun k hkl hk'=>?_⟩
       · rcases hM.new k hk' with h|h
         · exact (hz k h).1
         · rw [HC.out.2] at h;omega
       · have hk0:=hw1.out.size
         have:=(hM.same k (by rw [HC.out.2];omega) (.inl ⟨hk',hkl⟩) (fun h=>by have:=(hz k h).1;omega))
         rw [HC.out.2] at this
         exact this.trans (hk k hkl hk')
      clear hM hJ3 HK d0 d1
      gi_wp2
      go_roundw
      case rel=>exact ⟨_,_,_,_,_,_,rfl,rfl,by omega,by omega,_,_,_,HN.out⟩
      case measure=>simp [slLen];omega
    · clear hM
      gi_wp2
      refine bodyPost_ret (results_none rfl _ _ _) rfl ?_
      exact ⟨⟨_,rfl⟩,.inr ⟨_,Z',by rw [HTT.out];exact List.prefix_append _ _,hJx3⟩⟩
  | cons x l =>
   cases fl with
   | nil =>
    obtain rfl:p=0:=by have:=hI.pl;simpa using this.symm
    obtain ⟨nb,no,hna,hn0,hn1⟩:=hI.ne.head
    subst hna
    have hnb:=(hI.nR nb ⟨_,_,rfl⟩)
    have hm0:0<m:=by have:=hI.ml;simp at this;omega
    obtain ⟨Z,hj,hz,hsz,hk⟩:=hI.zz
    have hbn:wr.heap[nb]? = w0.heap[nb]?:=(hk nb (zac hn0) hnb).trans (hw1.out.block nb (zac hn0))
    have cn0:wr.cell? ⟨nb,no,none⟩=some (.int .i64 x.f):=(World.cell?_of_block (w:=w0) hbn).trans hn0
    have cn1:wr.cell? ⟨nb,no+1,none⟩=some (.slice x.a x.bs.length x.c):=(World.cell?_of_block (w:=w0) hbn).trans hn1
    have hm1:¬(m=0):=by omega
    have hm2:¬((m:Int)=0):=by omega
    have hm3:(0:Int)<(m:Int):=by omega
    have HI:Hid (zdh _ _ _ _ _ _ _ _ _ _ _ _ _ _ _ _):=hI
    have hTT:T=(pre++[x])++bothE (m-1+0) l []:=by rw [hI.tt,both_b hI.ml,List.append_assoc];rfl
    have HTT:Hid (_=_):=hTT
    have HK:Hid ((∀ k,Z k→W.heap.size≤k∧k<wr.heap.size)∧W.heap.size≤wr.heap.size∧(∀ k,k<w0.heap.size→(lies A k∨lies B k)→wr.heap[k]? = W.heap[k]?)):=⟨hz,hsz,hk⟩
    have HJ1:Hid (J pre Z wr):=hj
    clear hI hz hsz hk hj hTT hn0 hn1 hbn hnb
    gi_wp2
    obtain ⟨S,hS⟩:∃ S:World→Prop,S=fun W'=>W'.cell? ⟨nb,no,none⟩=some (.int .i64 x.f):=⟨_,rfl⟩
    obtain ⟨y0,y1,y2,y3,y4,y5,y6,y7,y17,y18⟩:(∀ {ps} (ev:EV),ev (.tmp 4)=.slice (some ⟨nb,no,none⟩) m nc→Yl Try.prog S ev ⟨some 16,.move (.tmp 4),23,ps,#[],none⟩ ((.slice (some ⟨nb,no,none⟩) m nc)))∧(∀ {ps} (ev:EV),ev (.tmp 16)=.slice (some ⟨nb,no,none⟩) m nc→Yl Try.prog S ev ⟨some 17,.call { callee:=.builtin .len,args:=#[.tmp 16],argTypes:=#[23]},3,ps,#[⟨0,.data⟩],none⟩ ((.int .i64 (m:Int))))∧(∀ {ps} (ev:EV),ev (.tmp 17)=.int .i64 (m:Int)→ev (.const (Go.Value.int Go.IntKind.i64 0))=(Go.Value.int Go.IntKind.i64 0)→Yl Try.prog S ev ⟨some 18,.binOp .eql 3 (.tmp 17) (.const (.int .i64 0)) 3,4,ps,#[⟨1,.data⟩],none⟩ ((.bool false)))∧(∀ {ps} (ev:EV),ev (.tmp 18)=.bool false→Yl Try.prog S ev ⟨some 19,.move (.tmp 18),4,ps,#[⟨2,.data⟩],none⟩ ((.bool false)))∧(∀ {ps} (ev:EV),ev (.tmp 5)=.slice fa 0 fc→Yl Try.prog S ev ⟨some 20,.move (.tmp 5),23,ps,#[⟨3,.guard⟩],some (3,false)⟩ ((.slice fa 0 fc)))∧(∀ {ps} (ev:EV),ev (.tmp 20)=.slice fa 0 fc→Yl Try.prog S ev ⟨some 21,.call { callee:=.builtin .len,args:=#[.tmp 20],argTypes:=#[23]},3,ps,#[⟨4,.data⟩,⟨3,.guard⟩],some (3,false)⟩ ((.int .i64 0)))∧(∀ {ps} (ev:EV),ev (.tmp 21)=.int .i64 0→ev (.const (Go.Value.int Go.IntKind.i64 0))=(Go.Value.int Go.IntKind.i64 0)→Yl Try.prog S ev ⟨some 22,.binOp .gtr 3 (.tmp 21) (.const (.int .i64 0)) 3,4,ps,#[⟨5,.data⟩,⟨3,.guard⟩],some (3,false)⟩ ((.bool false)))∧(∀ {ps} (ev:EV),ev (.tmp 22)=.bool false→Yl Try.prog S ev ⟨some 23,.move (.tmp 22),4,ps,#[⟨6,.data⟩,⟨3,.chain⟩,⟨3,.guard⟩],some (3,false)⟩ ((.bool false)))∧(∀ {ps} (ev:EV),ev (.tmp 23)=.bool false→ev (.const (Go.Value.bool false))=(Go.Value.bool false)→Yl Try.prog S ev ⟨some 33,.pick (.tmp 23) (.tmp 32) (.const (.bool false)),4,ps,#[⟨7,.data⟩,⟨16,.data⟩,⟨3,.guard⟩],some (3,false)⟩ ((.bool false)))∧(∀ {ps} (ev:EV),ev (.tmp 19)=.bool false→ev (.const (Go.Value.bool true))=(Go.Value.bool true)→ev (.tmp 33)=.bool false→Yl Try.prog S ev ⟨some 34,.pick (.tmp 19) (.const (.bool true)) (.tmp 33),4,ps,#[⟨3,.data⟩,⟨17,.data⟩],none⟩ ((.bool false))):=by
     refine ⟨?_,?_,?_,?_,?_,?_,?_,?_,?_,?_⟩<;>(intros;intro W hSw;rw [hS] at hSw;(try dsimp only at hSw);go_simp<;>with_reducible rfl)
    refine zbi (fun W'=>S W'∧(Below 0 wr W'∧W'.heap=wr.heap)) (by kernel_rfl) (by kernel_rfl) (by kernel_rfl) ?hC ?_
    case hC=>exact ⟨by rw [hS];exact cn0,Below.drew (Below.refl _ _),rfl⟩
    refine zab (by kernel_rfl) (fun W hW=>y0 _ rfl W hW.1) ?_
    try simp only [Act.put,qA,qZ,qS]
    refine zab (by kernel_rfl) (fun W hW=>y1 _ rfl W hW.1) ?_
    try simp only [Act.put,qA,qZ,qS]
    refine zab (by kernel_rfl) (fun W hW=>y2 _ rfl rfl W hW.1) ?_
    try simp only [Act.put,qA,qZ,qS]
    refine zab (by kernel_rfl) (fun W hW=>y3 _ rfl W hW.1) ?_
    try simp only [Act.put,qA,qZ,qS]
    refine zab (by kernel_rfl) (fun W hW=>y4 _ rfl W hW.1) ?_
    try simp only [Act.put,qA,qZ,qS]
    refine zab (by kernel_rfl) (fun W hW=>y5 _ rfl W hW.1) ?_
    try simp only [Act.put,qA,qZ,qS]
    refine zab (by kernel_rfl) (fun W hW=>y6 _ rfl rfl W hW.1) ?_
    try simp only [Act.put,qA,qZ,qS]
    refine zab (by kernel_rfl) (fun W hW=>y7 _ rfl W hW.1) ?_
    try simp only [Act.put,qA,qZ,qS]
    refine zap (by kernel_rfl) ?_
    try simp only [Act.put,qA,qZ,qS]
    refine zap (by kernel_rfl) ?_
    try simp only [Act.put,qA,qZ,qS]
    refine zap (by kernel_rfl) ?_
    try simp only [Act.put,qA,qZ,qS]
    refine zap (by kernel_rfl) ?_
    try simp only [Act.put,qA,qZ,qS]
    refine zap (by kernel_rfl) ?_
    try simp only [Act.put,qA,qZ,qS]
    refine zap (by kernel_rfl) ?_
    try simp only [Act.put,qA,qZ,qS]
    refine zap (by kernel_rfl) ?_
    try simp only [Act.put,qA,qZ,qS]
    refine zap (by kernel_rfl) ?_
    try simp only [Act.put,qA,qZ,qS]
    refine zap (by kernel_rfl) ?_
    try simp only [Act.put,qA,qZ,qS]
    refine zab (by kernel_rfl) (fun W hW=>y17 _ rfl rfl W hW.1) ?_
    try simp only [Act.put,qA,qZ,qS]
    refine zab (by kernel_rfl) (fun W hW=>y18 _ rfl rfl rfl W hW.1) ?_
    try simp only [Act.put,qA,qZ,qS]
    refine zb2 ?_
    intro W2 hC2
    have d0:W2.cell? ⟨nb,no,none⟩=some (.int .i64 x.f):=by rw [World.cell?_of_block (w:=wr) (by rw [hC2.2.2])];exact cn0
    have d1:W2.cell? ⟨nb,no+1,none⟩=some (.slice x.a x.bs.length x.c):=by rw [World.cell?_of_block (w:=wr) (by rw [hC2.2.2])];exact cn1
    have HC:Hid (Below 0 wr W2∧W2.heap=wr.heap):=hC2.2
    obtain ⟨fn,tmps,assign,body,hy,hR⟩:=HY.out pre x Z W2 (HJ0.out _ _ _ _ HJ1.out (zcp HC.out.1 HC.out.2)) (by rw [HC.out.2];exact HK.out.2.1) (by rw [HC.out.2];exact HK.out.1) (by rw [HTT.out];exact List.prefix_append _ _)
    have hsl:=fun W=>slE_l (some ⟨nb,no,none⟩) m nc 1 1 rfl (by omega) W
    clear hC2 hS y0 y1 y2 y3 y4 y5 y6 y7 y17 y18 cn0 cn1
    gi_wp2
    refine ⟨fun h=>by simp [Fence.wide] at h,hR.mono ?_⟩
    rintro e W3 ⟨Z',hM,(⟨rfl,hJ3⟩|⟨rfl,hJx3⟩)⟩
    · have HN:Hid (zdh w0 W W3 A B T J (cutE (some ⟨nb,no,none⟩) nc 1) (m-1) (nc-1) (fa) 0 fc l [] (pre++[x])):=by
       obtain ⟨hz,hsz,hk⟩:=HK.out
       have h1:=hM.flat.size
       rw [HC.out.2] at h1
       have hl1:=HI.out.ml
       simp at hl1
       have hc1:=HI.out.mc
       refine ⟨by omega,rfl,by omega,HI.out.pc,HI.out.ne.tail (by omega),HI.out.fe,fun k hk=>HI.out.nR k (zdk hk),HI.out.fR,HTT.out,Z',hJ3,fun k hk'=>⟨?_,hM.lt k hk'⟩,by omega,fun k hkl hk'=>?_⟩
       · rcases hM.new k hk' with h|h
         · exact (hz k h).1
         · rw [HC.out.2] at h;omega
       · have hk0:=hw1.out.size
         have:=(hM.same k (by rw [HC.out.2];omega) (.inl ⟨hk',hkl⟩) (fun h=>by have:=(hz k h).1;omega))
         rw [HC.out.2] at this
         exact this.trans (hk k hkl hk')
      clear hM hJ3 HK d0 d1
      gi_wp2
      go_roundw
      case rel=>exact ⟨_,_,_,_,_,_,rfl,rfl,by omega,by omega,_,_,_,HN.out⟩
      case measure=>simp [slLen];omega
    · clear hM
      gi_wp2
      refine bodyPost_ret (results_none rfl _ _ _) rfl ?_
      exact ⟨⟨_,rfl⟩,.inr ⟨_,Z',by rw [HTT.out];exact List.prefix_append _ _,hJx3⟩⟩
   | cons y r =>
    by_cases hlt:y.f<x.f
    · skip
      obtain ⟨fb,fo,hfa,hf0,hf1⟩:=hI.fe.head
      subst hfa
      have hfb:=(hI.fR fb ⟨_,_,rfl⟩)
      have hp0:0<p:=by have:=hI.pl;simp at this;omega
      obtain ⟨nb,no,hna,hn0,hn1⟩:=hI.ne.head
      subst hna
      have hnb:=(hI.nR nb ⟨_,_,rfl⟩)
      have hm0:0<m:=by have:=hI.ml;simp at this;omega
      obtain ⟨Z,hj,hz,hsz,hk⟩:=hI.zz
      have hbf:wr.heap[fb]? = w0.heap[fb]?:=(hk fb (zac hf0) hfb).trans (hw1.out.block fb (zac hf0))
      have cf0:wr.cell? ⟨fb,fo,none⟩=some (.int .i64 y.f):=(World.cell?_of_block (w:=w0) hbf).trans hf0
      have cf1:wr.cell? ⟨fb,fo+1,none⟩=some (.slice y.a y.bs.length y.c):=(World.cell?_of_block (w:=w0) hbf).trans hf1
      have hp1:¬(p=0):=by omega
      have hp2:¬((p:Int)=0):=by omega
      have hp3:(0:Int)<(p:Int):=by omega
      have hbn:wr.heap[nb]? = w0.heap[nb]?:=(hk nb (zac hn0) hnb).trans (hw1.out.block nb (zac hn0))
      have cn0:wr.cell? ⟨nb,no,none⟩=some (.int .i64 x.f):=(World.cell?_of_block (w:=w0) hbn).trans hn0
      have cn1:wr.cell? ⟨nb,no+1,none⟩=some (.slice x.a x.bs.length x.c):=(World.cell?_of_block (w:=w0) hbn).trans hn1
      have hm1:¬(m=0):=by omega
      have hm2:¬((m:Int)=0):=by omega
      have hm3:(0:Int)<(m:Int):=by omega
      have HI:Hid (zdh _ _ _ _ _ _ _ _ _ _ _ _ _ _ _ _):=hI
      have hTT:T=(pre++[y])++bothE (p-1+m) r (x::l):=by rw [hI.tt,both_c hI.ml hI.pl hlt,List.append_assoc];rfl
      have HTT:Hid (_=_):=hTT
      have HK:Hid ((∀ k,Z k→W.heap.size≤k∧k<wr.heap.size)∧W.heap.size≤wr.heap.size∧(∀ k,k<w0.heap.size→(lies A k∨lies B k)→wr.heap[k]? = W.heap[k]?)):=⟨hz,hsz,hk⟩
      have HJ1:Hid (J pre Z wr):=hj
      clear hI hz hsz hk hj hTT hf0 hf1 hbf hfb hn0 hn1 hbn hnb
      gi_wp2
      obtain ⟨S,hS⟩:∃ S:World→Prop,S=fun W'=>W'.cell? ⟨fb,fo,none⟩=some (.int .i64 y.f)∧W'.cell? ⟨nb,no,none⟩=some (.int .i64 x.f):=⟨_,rfl⟩
      obtain ⟨y0,y1,y2,y3,y4,y5,y6,y7,y8,y9,y10,y11,y12,y13,y14,y15,y16,y17,y18⟩:(∀ {ps} (ev:EV),ev (.tmp 4)=.slice (some ⟨nb,no,none⟩) m nc→Yl Try.prog S ev ⟨some 16,.move (.tmp 4),23,ps,#[],none⟩ ((.slice (some ⟨nb,no,none⟩) m nc)))∧(∀ {ps} (ev:EV),ev (.tmp 16)=.slice (some ⟨nb,no,none⟩) m nc→Yl Try.prog S ev ⟨some 17,.call { callee:=.builtin .len,args:=#[.tmp 16],argTypes:=#[23]},3,ps,#[⟨0,.data⟩],none⟩ ((.int .i64 (m:Int))))∧(∀ {ps} (ev:EV),ev (.tmp 17)=.int .i64 (m:Int)→ev (.const (Go.Value.int Go.IntKind.i64 0))=(Go.Value.int Go.IntKind.i64 0)→Yl Try.prog S ev ⟨some 18,.binOp .eql 3 (.tmp 17) (.const (.int .i64 0)) 3,4,ps,#[⟨1,.data⟩],none⟩ ((.bool false)))∧(∀ {ps} (ev:EV),ev (.tmp 18)=.bool false→Yl Try.prog S ev ⟨some 19,.move (.tmp 18),4,ps,#[⟨2,.data⟩],none⟩ ((.bool false)))∧(∀ {ps} (ev:EV),ev (.tmp 5)=.slice (some ⟨fb,fo,none⟩) p fc→Yl Try.prog S ev ⟨some 20,.move (.tmp 5),23,ps,#[⟨3,.guard⟩],some (3,false)⟩ ((.slice (some ⟨fb,fo,none⟩) p fc)))∧(∀ {ps} (ev:EV),ev (.tmp 20)=.slice (some ⟨fb,fo,none⟩) p fc→Yl Try.prog S ev ⟨some 21,.call { callee:=.builtin .len,args:=#[.tmp 20],argTypes:=#[23]},3,ps,#[⟨4,.data⟩,⟨3,.guard⟩],some (3,false)⟩ ((.int .i64 (p:Int))))∧(∀ {ps} (ev:EV),ev (.tmp 21)=.int .i64 (p:Int)→ev (.const (Go.Value.int Go.IntKind.i64 0))=(Go.Value.int Go.IntKind.i64 0)→Yl Try.prog S ev ⟨some 22,.binOp .gtr 3 (.tmp 21) (.const (.int .i64 0)) 3,4,ps,#[⟨5,.data⟩,⟨3,.guard⟩],some (3,false)⟩ ((.bool true)))∧(∀ {ps} (ev:EV),ev (.tmp 22)=.bool true→Yl Try.prog S ev ⟨some 23,.move (.tmp 22),4,ps,#[⟨6,.data⟩,⟨3,.chain⟩,⟨3,.guard⟩],some (3,false)⟩ ((.bool true)))∧(∀ {ps} (ev:EV),ev (.tmp 5)=.slice (some ⟨fb,fo,none⟩) p fc→Yl Try.prog S ev ⟨some 24,.move (.tmp 5),23,ps,#[⟨7,.guard⟩],some (7,true)⟩ ((.slice (some ⟨fb,fo,none⟩) p fc)))∧(∀ {ps} (ev:EV),ev (.tmp 24)=.slice (some ⟨fb,fo,none⟩) p fc→ev (.const (Go.Value.int Go.IntKind.i64 0))=(Go.Value.int Go.IntKind.i64 0)→Yl Try.prog S ev ⟨some 25,.indexAddr 23 (.tmp 24) (.const (.int .i64 0)),0,ps,#[⟨8,.data⟩,⟨7,.guard⟩],some (7,true)⟩ ((.pointer (some ⟨fb,fo,none⟩))))∧(∀ {ps} (ev:EV),ev (.tmp 25)=.pointer (some ⟨fb,fo,none⟩)→Yl Try.prog S ev ⟨some 26,.fieldAddr 74 (.tmp 25) 0,0,ps,#[⟨9,.data⟩,⟨7,.guard⟩],some (7,true)⟩ ((.pointer (some ⟨fb,fo,none⟩))))∧(∀ {ps} (ev:EV),ev (.tmp 26)=.pointer (some ⟨fb,fo,none⟩)→Yl Try.prog S ev ⟨some 27,.load 3 (.tmp 26),3,ps,#[⟨10,.data⟩,⟨7,.guard⟩],some (7,true)⟩ ((.int .i64 y.f)))∧(∀ {ps} (ev:EV),ev (.tmp 4)=.slice (some ⟨nb,no,none⟩) m nc→Yl Try.prog S ev ⟨some 28,.move (.tmp 4),23,ps,#[⟨7,.guard⟩],some (7,true)⟩ ((.slice (some ⟨nb,no,none⟩) m nc)))∧(∀ {ps} (ev:EV),ev (.tmp 28)=.slice (some ⟨nb,no,none⟩) m nc→ev (.const (Go.Value.int Go.IntKind.i64 0))=(Go.Value.int Go.IntKind.i64 0)→Yl Try.prog S ev ⟨some 29,.indexAddr 23 (.tmp 28) (.const (.int .i64 0)),0,ps,#[⟨12,.data⟩,⟨7,.guard⟩],some (7,true)⟩ ((.pointer (some ⟨nb,no,none⟩))))∧(∀ {ps} (ev:EV),ev (.tmp 29)=.pointer (some ⟨nb,no,none⟩)→Yl Try.prog S ev ⟨some 30,.fieldAddr 74 (.tmp 29) 0,0,ps,#[⟨13,.data⟩,⟨7,.guard⟩],some (7,true)⟩ ((.pointer (some ⟨nb,no,none⟩))))∧(∀ {ps} (ev:EV),ev (.tmp 30)=.pointer (some ⟨nb,no,none⟩)→Yl Try.prog S ev ⟨some 31,.load 3 (.tmp 30),3,ps,#[⟨14,.data⟩,⟨7,.guard⟩],some (7,true)⟩ ((.int .i64 x.f)))∧(∀ {ps} (ev:EV),ev (.tmp 27)=.int .i64 y.f→ev (.tmp 31)=.int .i64 x.f→Yl Try.prog S ev ⟨some 32,.binOp .lss 3 (.tmp 27) (.tmp 31) 3,4,ps,#[⟨11,.data⟩,⟨15,.data⟩,⟨7,.guard⟩],some (7,true)⟩ ((.bool true)))∧(∀ {ps} (ev:EV),ev (.tmp 23)=.bool true→ev (.tmp 32)=.bool true→ev (.const (Go.Value.bool false))=(Go.Value.bool false)→Yl Try.prog S ev ⟨some 33,.pick (.tmp 23) (.tmp 32) (.const (.bool false)),4,ps,#[⟨7,.data⟩,⟨16,.data⟩,⟨3,.guard⟩],some (3,false)⟩ ((.bool true)))∧(∀ {ps} (ev:EV),ev (.tmp 19)=.bool false→ev (.const (Go.Value.bool true))=(Go.Value.bool true)→ev (.tmp 33)=.bool true→Yl Try.prog S ev ⟨some 34,.pick (.tmp 19) (.const (.bool true)) (.tmp 33),4,ps,#[⟨3,.data⟩,⟨17,.data⟩],none⟩ ((.bool true))):=by
       refine ⟨?_,?_,?_,?_,?_,?_,?_,?_,?_,?_,?_,?_,?_,?_,?_,?_,?_,?_,?_⟩<;>(intros;intro W hSw;rw [hS] at hSw;(try dsimp only at hSw);go_simp<;>with_reducible rfl)
      refine zbi (fun W'=>S W'∧(Below 0 wr W'∧W'.heap=wr.heap)) (by kernel_rfl) (by kernel_rfl) (by kernel_rfl) ?hC ?_
      case hC=>exact ⟨by rw [hS];exact ⟨cf0,cn0⟩,Below.drew (Below.refl _ _),rfl⟩
      refine zab (by kernel_rfl) (fun W hW=>y0 _ rfl W hW.1) ?_
      try simp only [Act.put,qA,qZ,qS]
      refine zab (by kernel_rfl) (fun W hW=>y1 _ rfl W hW.1) ?_
      try simp only [Act.put,qA,qZ,qS]
      refine zab (by kernel_rfl) (fun W hW=>y2 _ rfl rfl W hW.1) ?_
      try simp only [Act.put,qA,qZ,qS]
      refine zab (by kernel_rfl) (fun W hW=>y3 _ rfl W hW.1) ?_
      try simp only [Act.put,qA,qZ,qS]
      refine zab (by kernel_rfl) (fun W hW=>y4 _ rfl W hW.1) ?_
      try simp only [Act.put,qA,qZ,qS]
      refine zab (by kernel_rfl) (fun W hW=>y5 _ rfl W hW.1) ?_
      try simp only [Act.put,qA,qZ,qS]
      refine zab (by kernel_rfl) (fun W hW=>y6 _ rfl rfl W hW.1) ?_
      try simp only [Act.put,qA,qZ,qS]
      refine zab (by kernel_rfl) (fun W hW=>y7 _ rfl W hW.1) ?_
      try simp only [Act.put,qA,qZ,qS]
      refine zab (by kernel_rfl) (fun W hW=>y8 _ rfl W hW.1) ?_
      try simp only [Act.put,qA,qZ,qS]
      refine zab (by kernel_rfl) (fun W hW=>y9 _ rfl rfl W hW.1) ?_
      try simp only [Act.put,qA,qZ,qS]
      refine zab (by kernel_rfl) (fun W hW=>y10 _ rfl W hW.1) ?_
      try simp only [Act.put,qA,qZ,qS]
      refine zab (by kernel_rfl) (fun W hW=>y11 _ rfl W hW.1) ?_
      try simp only [Act.put,qA,qZ,qS]
      refine zab (by kernel_rfl) (fun W hW=>y12 _ rfl W hW.1) ?_
      try simp only [Act.put,qA,qZ,qS]
      refine zab (by kernel_rfl) (fun W hW=>y13 _ rfl rfl W hW.1) ?_
      try simp only [Act.put,qA,qZ,qS]
      refine zab (by kernel_rfl) (fun W hW=>y14 _ rfl W hW.1) ?_
      try simp only [Act.put,qA,qZ,qS]
      refine zab (by kernel_rfl) (fun W hW=>y15 _ rfl W hW.1) ?_
      try simp only [Act.put,qA,qZ,qS]
      refine zab (by kernel_rfl) (fun W hW=>y16 _ rfl rfl W hW.1) ?_
      try simp only [Act.put,qA,qZ,qS]
      refine zab (by kernel_rfl) (fun W hW=>y17 _ rfl rfl rfl W hW.1) ?_
      try simp only [Act.put,qA,qZ,qS]
      refine zab (by kernel_rfl) (fun W hW=>y18 _ rfl rfl rfl W hW.1) ?_
      try simp only [Act.put,qA,qZ,qS]
      refine zb2 ?_
      intro W2 hC2
      have d0:W2.cell? ⟨fb,fo,none⟩=some (.int .i64 y.f):=by rw [World.cell?_of_block (w:=wr) (by rw [hC2.2.2])];exact cf0
      have d1:W2.cell? ⟨fb,fo+1,none⟩=some (.slice y.a y.bs.length y.c):=by rw [World.cell?_of_block (w:=wr) (by rw [hC2.2.2])];exact cf1
      have HC:Hid (Below 0 wr W2∧W2.heap=wr.heap):=hC2.2
      obtain ⟨fn,tmps,assign,body,hy,hR⟩:=HY.out pre y Z W2 (HJ0.out _ _ _ _ HJ1.out (zcp HC.out.1 HC.out.2)) (by rw [HC.out.2];exact HK.out.2.1) (by rw [HC.out.2];exact HK.out.1) (by rw [HTT.out];exact List.prefix_append _ _)
      have hsl:=fun W=>slE_l (some ⟨fb,fo,none⟩) p fc 1 1 rfl (by omega) W
      clear hC2 hS y0 y1 y2 y3 y4 y5 y6 y7 y8 y9 y10 y11 y12 y13 y14 y15 y16 y17 y18 cf0 cf1 cn0 cn1
      gi_wp2
      refine ⟨fun h=>by simp [Fence.wide] at h,hR.mono ?_⟩
      rintro e W3 ⟨Z',hM,(⟨rfl,hJ3⟩|⟨rfl,hJx3⟩)⟩
      · have HN:Hid (zdh w0 W W3 A B T J (cutE (some ⟨fb,fo,none⟩) fc 1) (p-1) (fc-1) (some ⟨nb,no,none⟩) m nc r (x::l) (pre++[y])):=by
         obtain ⟨hz,hsz,hk⟩:=HK.out
         have h1:=hM.flat.size
         rw [HC.out.2] at h1
         have hl1:=HI.out.pl
         simp at hl1
         have hc1:=HI.out.pc
         refine ⟨by omega,HI.out.ml,by omega,HI.out.mc,HI.out.fe.tail (by omega),HI.out.ne,fun k hk=>HI.out.fR k (zdk hk),HI.out.nR,HTT.out,Z',hJ3,fun k hk'=>⟨?_,hM.lt k hk'⟩,by omega,fun k hkl hk'=>?_⟩
         · rcases hM.new k hk' with h|h
           · exact (hz k h).1
           · rw [HC.out.2] at h;omega
         · have hk0:=hw1.out.size
           have:=(hM.same k (by rw [HC.out.2];omega) (.inl ⟨hk',hkl⟩) (fun h=>by have:=(hz k h).1;omega))
           rw [HC.out.2] at this
           exact this.trans (hk k hkl hk')
        clear hM hJ3 HK d0 d1
        gi_wp2
        go_roundw
        case rel=>exact ⟨_,_,_,_,_,_,rfl,rfl,by omega,by omega,_,_,_,HN.out⟩
        case measure=>simp [slLen];omega
      · clear hM
        gi_wp2
        refine bodyPost_ret (results_none rfl _ _ _) rfl ?_
        exact ⟨⟨_,rfl⟩,.inr ⟨_,Z',by rw [HTT.out];exact List.prefix_append _ _,hJx3⟩⟩
    · skip
      obtain ⟨fb,fo,hfa,hf0,hf1⟩:=hI.fe.head
      subst hfa
      have hfb:=(hI.fR fb ⟨_,_,rfl⟩)
      have hp0:0<p:=by have:=hI.pl;simp at this;omega
      obtain ⟨nb,no,hna,hn0,hn1⟩:=hI.ne.head
      subst hna
      have hnb:=(hI.nR nb ⟨_,_,rfl⟩)
      have hm0:0<m:=by have:=hI.ml;simp at this;omega
      obtain ⟨Z,hj,hz,hsz,hk⟩:=hI.zz
      have hbf:wr.heap[fb]? = w0.heap[fb]?:=(hk fb (zac hf0) hfb).trans (hw1.out.block fb (zac hf0))
      have cf0:wr.cell? ⟨fb,fo,none⟩=some (.int .i64 y.f):=(World.cell?_of_block (w:=w0) hbf).trans hf0
      have cf1:wr.cell? ⟨fb,fo+1,none⟩=some (.slice y.a y.bs.length y.c):=(World.cell?_of_block (w:=w0) hbf).trans hf1
      have hp1:¬(p=0):=by omega
      have hp2:¬((p:Int)=0):=by omega
      have hp3:(0:Int)<(p:Int):=by omega
      have hbn:wr.heap[nb]? = w0.heap[nb]?:=(hk nb (zac hn0) hnb).trans (hw1.out.block nb (zac hn0))
      have cn0:wr.cell? ⟨nb,no,none⟩=some (.int .i64 x.f):=(World.cell?_of_block (w:=w0) hbn).trans hn0
      have cn1:wr.cell? ⟨nb,no+1,none⟩=some (.slice x.a x.bs.length x.c):=(World.cell?_of_block (w:=w0) hbn).trans hn1
      have hm1:¬(m=0):=by omega
      have hm2:¬((m:Int)=0):=by omega
      have hm3:(0:Int)<(m:Int):=by omega
      have HI:Hid (zdh _ _ _ _ _ _ _ _ _ _ _ _ _ _ _ _):=hI
      have hTT:T=(pre++[x])++bothE (m-1+p) l (y::r):=by rw [hI.tt,both_d hI.ml hI.pl hlt,List.append_assoc];rfl
      have HTT:Hid (_=_):=hTT
      have HK:Hid ((∀ k,Z k→W.heap.size≤k∧k<wr.heap.size)∧W.heap.size≤wr.heap.size∧(∀ k,k<w0.heap.size→(lies A k∨lies B k)→wr.heap[k]? = W.heap[k]?)):=⟨hz,hsz,hk⟩
      have HJ1:Hid (J pre Z wr):=hj
      clear hI hz hsz hk hj hTT hf0 hf1 hbf hfb hn0 hn1 hbn hnb
      gi_wp2
      obtain ⟨S,hS⟩:∃ S:World→Prop,S=fun W'=>W'.cell? ⟨fb,fo,none⟩=some (.int .i64 y.f)∧W'.cell? ⟨nb,no,none⟩=some (.int .i64 x.f):=⟨_,rfl⟩
      obtain ⟨y0,y1,y2,y3,y4,y5,y6,y7,y8,y9,y10,y11,y12,y13,y14,y15,y16,y17,y18⟩:(∀ {ps} (ev:EV),ev (.tmp 4)=.slice (some ⟨nb,no,none⟩) m nc→Yl Try.prog S ev ⟨some 16,.move (.tmp 4),23,ps,#[],none⟩ ((.slice (some ⟨nb,no,none⟩) m nc)))∧(∀ {ps} (ev:EV),ev (.tmp 16)=.slice (some ⟨nb,no,none⟩) m nc→Yl Try.prog S ev ⟨some 17,.call { callee:=.builtin .len,args:=#[.tmp 16],argTypes:=#[23]},3,ps,#[⟨0,.data⟩],none⟩ ((.int .i64 (m:Int))))∧(∀ {ps} (ev:EV),ev (.tmp 17)=.int .i64 (m:Int)→ev (.const (Go.Value.int Go.IntKind.i64 0))=(Go.Value.int Go.IntKind.i64 0)→Yl Try.prog S ev ⟨some 18,.binOp .eql 3 (.tmp 17) (.const (.int .i64 0)) 3,4,ps,#[⟨1,.data⟩],none⟩ ((.bool false)))∧(∀ {ps} (ev:EV),ev (.tmp 18)=.bool false→Yl Try.prog S ev ⟨some 19,.move (.tmp 18),4,ps,#[⟨2,.data⟩],none⟩ ((.bool false)))∧(∀ {ps} (ev:EV),ev (.tmp 5)=.slice (some ⟨fb,fo,none⟩) p fc→Yl Try.prog S ev ⟨some 20,.move (.tmp 5),23,ps,#[⟨3,.guard⟩],some (3,false)⟩ ((.slice (some ⟨fb,fo,none⟩) p fc)))∧(∀ {ps} (ev:EV),ev (.tmp 20)=.slice (some ⟨fb,fo,none⟩) p fc→Yl Try.prog S ev ⟨some 21,.call { callee:=.builtin .len,args:=#[.tmp 20],argTypes:=#[23]},3,ps,#[⟨4,.data⟩,⟨3,.guard⟩],some (3,false)⟩ ((.int .i64 (p:Int))))∧(∀ {ps} (ev:EV),ev (.tmp 21)=.int .i64 (p:Int)→ev (.const (Go.Value.int Go.IntKind.i64 0))=(Go.Value.int Go.IntKind.i64 0)→Yl Try.prog S ev ⟨some 22,.binOp .gtr 3 (.tmp 21) (.const (.int .i64 0)) 3,4,ps,#[⟨5,.data⟩,⟨3,.guard⟩],some (3,false)⟩ ((.bool true)))∧(∀ {ps} (ev:EV),ev (.tmp 22)=.bool true→Yl Try.prog S ev ⟨some 23,.move (.tmp 22),4,ps,#[⟨6,.data⟩,⟨3,.chain⟩,⟨3,.guard⟩],some (3,false)⟩ ((.bool true)))∧(∀ {ps} (ev:EV),ev (.tmp 5)=.slice (some ⟨fb,fo,none⟩) p fc→Yl Try.prog S ev ⟨some 24,.move (.tmp 5),23,ps,#[⟨7,.guard⟩],some (7,true)⟩ ((.slice (some ⟨fb,fo,none⟩) p fc)))∧(∀ {ps} (ev:EV),ev (.tmp 24)=.slice (some ⟨fb,fo,none⟩) p fc→ev (.const (Go.Value.int Go.IntKind.i64 0))=(Go.Value.int Go.IntKind.i64 0)→Yl Try.prog S ev ⟨some 25,.indexAddr 23 (.tmp 24) (.const (.int .i64 0)),0,ps,#[⟨8,.data⟩,⟨7,.guard⟩],some (7,true)⟩ ((.pointer (some ⟨fb,fo,none⟩))))∧(∀ {ps} (ev:EV),ev (.tmp 25)=.pointer (some ⟨fb,fo,none⟩)→Yl Try.prog S ev ⟨some 26,.fieldAddr 74 (.tmp 25) 0,0,ps,#[⟨9,.data⟩,⟨7,.guard⟩],some (7,true)⟩ ((.pointer (some ⟨fb,fo,none⟩))))∧(∀ {ps} (ev:EV),ev (.tmp 26)=.pointer (some ⟨fb,fo,none⟩)→Yl Try.prog S ev ⟨some 27,.load 3 (.tmp 26),3,ps,#[⟨10,.data⟩,⟨7,.guard⟩],some (7,true)⟩ ((.int .i64 y.f)))∧(∀ {ps} (ev:EV),ev (.tmp 4)=.slice (some ⟨nb,no,none⟩) m nc→Yl Try.prog S ev ⟨some 28,.move (.tmp 4),23,ps,#[⟨7,.guard⟩],some (7,true)⟩ ((.slice (some ⟨nb,no,none⟩) m nc)))∧(∀ {ps} (ev:EV),ev (.tmp 28)=.slice (some ⟨nb,no,none⟩) m nc→ev (.const (Go.Value.int Go.IntKind.i64 0))=(Go.Value.int Go.IntKind.i64 0)→Yl Try.prog S ev ⟨some 29,.indexAddr 23 (.tmp 28) (.const (.int .i64 0)),0,ps,#[⟨12,.data⟩,⟨7,.guard⟩],some (7,true)⟩ ((.pointer (some ⟨nb,no,none⟩))))∧(∀ {ps} (ev:EV),ev (.tmp 29)=.pointer (some ⟨nb,no,none⟩)→Yl Try.prog S ev ⟨some 30,.fieldAddr 74 (.tmp 29) 0,0,ps,#[⟨13,.data⟩,⟨7,.guard⟩],some (7,true)⟩ ((.pointer (some ⟨nb,no,none⟩))))∧(∀ {ps} (ev:EV),ev (.tmp 30)=.pointer (some ⟨nb,no,none⟩)→Yl Try.prog S ev ⟨some 31,.load 3 (.tmp 30),3,ps,#[⟨14,.data⟩,⟨7,.guard⟩],some (7,true)⟩ ((.int .i64 x.f)))∧(∀ {ps} (ev:EV),ev (.tmp 27)=.int .i64 y.f→ev (.tmp 31)=.int .i64 x.f→Yl Try.prog S ev ⟨some 32,.binOp .lss 3 (.tmp 27) (.tmp 31) 3,4,ps,#[⟨11,.data⟩,⟨15,.data⟩,⟨7,.guard⟩],some (7,true)⟩ ((.bool false)))∧(∀ {ps} (ev:EV),ev (.tmp 23)=.bool true→ev (.tmp 32)=.bool false→ev (.const (Go.Value.bool false))=(Go.Value.bool false)→Yl Try.prog S ev ⟨some 33,.pick (.tmp 23) (.tmp 32) (.const (.bool false)),4,ps,#[⟨7,.data⟩,⟨16,.data⟩,⟨3,.guard⟩],some (3,false)⟩ ((.bool false)))∧(∀ {ps} (ev:EV),ev (.tmp 19)=.bool false→ev (.const (Go.Value.bool true))=(Go.Value.bool true)→ev (.tmp 33)=.bool false→Yl Try.prog S ev ⟨some 34,.pick (.tmp 19) (.const (.bool true)) (.tmp 33),4,ps,#[⟨3,.data⟩,⟨17,.data⟩],none⟩ ((.bool false))):=by
       refine ⟨?_,?_,?_,?_,?_,?_,?_,?_,?_,?_,?_,?_,?_,?_,?_,?_,?_,?_,?_⟩<;>(intros;intro W hSw;rw [hS] at hSw;(try dsimp only at hSw);go_simp<;>with_reducible rfl)
      refine zbi (fun W'=>S W'∧(Below 0 wr W'∧W'.heap=wr.heap)) (by kernel_rfl) (by kernel_rfl) (by kernel_rfl) ?hC ?_
      case hC=>exact ⟨by rw [hS];exact ⟨cf0,cn0⟩,Below.drew (Below.refl _ _),rfl⟩
      refine zab (by kernel_rfl) (fun W hW=>y0 _ rfl W hW.1) ?_
      try simp only [Act.put,qA,qZ,qS]
      refine zab (by kernel_rfl) (fun W hW=>y1 _ rfl W hW.1) ?_
      try simp only [Act.put,qA,qZ,qS]
      refine zab (by kernel_rfl) (fun W hW=>y2 _ rfl rfl W hW.1) ?_
      try simp only [Act.put,qA,qZ,qS]
      refine zab (by kernel_rfl) (fun W hW=>y3 _ rfl W hW.1) ?_
      try simp only [Act.put,qA,qZ,qS]
      refine zab (by kernel_rfl) (fun W hW=>y4 _ rfl W hW.1) ?_
      try simp only [Act.put,qA,qZ,qS]
      refine zab (by kernel_rfl) (fun W hW=>y5 _ rfl W hW.1) ?_
      try simp only [Act.put,qA,qZ,qS]
      refine zab (by kernel_rfl) (fun W hW=>y6 _ rfl rfl W hW.1) ?_
      try simp only [Act.put,qA,qZ,qS]
      refine zab (by kernel_rfl) (fun W hW=>y7 _ rfl W hW.1) ?_
      try simp only [Act.put,qA,qZ,qS]
      refine zab (by kernel_rfl) (fun W hW=>y8 _ rfl W hW.1) ?_
      try simp only [Act.put,qA,qZ,qS]
      refine zab (by kernel_rfl) (fun W hW=>y9 _ rfl rfl W hW.1) ?_
      try simp only [Act.put,qA,qZ,qS]
      refine zab (by kernel_rfl) (fun W hW=>y10 _ rfl W hW.1) ?_
      try simp only [Act.put,qA,qZ,qS]
      refine zab (by kernel_rfl) (fun W hW=>y11 _ rfl W hW.1) ?_
      try simp only [Act.put,qA,qZ,qS]
      refine zab (by kernel_rfl) (fun W hW=>y12 _ rfl W hW.1) ?_
      try simp only [Act.put,qA,qZ,qS]
      refine zab (by kernel_rfl) (fun W hW=>y13 _ rfl rfl W hW.1) ?_
      try simp only [Act.put,qA,qZ,qS]
      refine zab (by kernel_rfl) (fun W hW=>y14 _ rfl W hW.1) ?_
      try simp only [Act.put,qA,qZ,qS]
      refine zab (by kernel_rfl) (fun W hW=>y15 _ rfl W hW.1) ?_
      try simp only [Act.put,qA,qZ,qS]
      refine zab (by kernel_rfl) (fun W hW=>y16 _ rfl rfl W hW.1) ?_
      try simp only [Act.put,qA,qZ,qS]
      refine zab (by kernel_rfl) (fun W hW=>y17 _ rfl rfl rfl W hW.1) ?_
      try simp only [Act.put,qA,qZ,qS]
      refine zab (by kernel_rfl) (fun W hW=>y18 _ rfl rfl rfl W hW.1) ?_
      try simp only [Act.put,qA,qZ,qS]
      refine zb2 ?_
      intro W2 hC2
      have d0:W2.cell? ⟨nb,no,none⟩=some (.int .i64 x.f):=by rw [World.cell?_of_block (w:=wr) (by rw [hC2.2.2])];exact cn0
      have d1:W2.cell? ⟨nb,no+1,none⟩=some (.slice x.a x.bs.length x.c):=by rw [World.cell?_of_block (w:=wr) (by rw [hC2.2.2])];exact cn1
      have HC:Hid (Below 0 wr W2∧W2.heap=wr.heap):=hC2.2
      obtain ⟨fn,tmps,assign,body,hy,hR⟩:=HY.out pre x Z W2 (HJ0.out _ _ _ _ HJ1.out (zcp HC.out.1 HC.out.2)) (by rw [HC.out.2];exact HK.out.2.1) (by rw [HC.out.2];exact HK.out.1) (by rw [HTT.out];exact List.prefix_append _ _)
      have hsl:=fun W=>slE_l (some ⟨nb,no,none⟩) m nc 1 1 rfl (by omega) W
      clear hC2 hS y0 y1 y2 y3 y4 y5 y6 y7 y8 y9 y10 y11 y12 y13 y14 y15 y16 y17 y18 cf0 cf1 cn0 cn1
      gi_wp2
      refine ⟨fun h=>by simp [Fence.wide] at h,hR.mono ?_⟩
      rintro e W3 ⟨Z',hM,(⟨rfl,hJ3⟩|⟨rfl,hJx3⟩)⟩
      · have HN:Hid (zdh w0 W W3 A B T J (cutE (some ⟨nb,no,none⟩) nc 1) (m-1) (nc-1) (some ⟨fb,fo,none⟩) p fc l (y::r) (pre++[x])):=by
         obtain ⟨hz,hsz,hk⟩:=HK.out
         have h1:=hM.flat.size
         rw [HC.out.2] at h1
         have hl1:=HI.out.ml
         simp at hl1
         have hc1:=HI.out.mc
         refine ⟨by omega,HI.out.pl,by omega,HI.out.pc,HI.out.ne.tail (by omega),HI.out.fe,fun k hk=>HI.out.nR k (zdk hk),HI.out.fR,HTT.out,Z',hJ3,fun k hk'=>⟨?_,hM.lt k hk'⟩,by omega,fun k hkl hk'=>?_⟩
         · rcases hM.new k hk' with h|h
           · exact (hz k h).1
           · rw [HC.out.2] at h;omega
         · have hk0:=hw1.out.size
           have:=(hM.same k (by rw [HC.out.2];omega) (.inl ⟨hk',hkl⟩) (fun h=>by have:=(hz k h).1;omega))
           rw [HC.out.2] at this
           exact this.trans (hk k hkl hk')
        clear hM hJ3 HK d0 d1
        gi_wp2
        go_roundw
        case rel=>exact ⟨_,_,_,_,_,_,rfl,rfl,by omega,by omega,_,_,_,HN.out⟩
        case measure=>simp [slLen];omega
      · clear hM
        gi_wp2
        refine bodyPost_ret (results_none rfl _ _ _) rfl ?_
        exact ⟨⟨_,rfl⟩,.inr ⟨_,Z',by rw [HTT.out];exact List.prefix_append _ _,hJx3⟩⟩
theorem spns_fit {es:List En} {l:List Pl.Pc} {lo:Int} (hl:es.map En.pc=l) (h0:0≤lo) (hlat:Pl.latB lo l) (hm:∀ p∈l,Pl.pend p≤562949953421312):spnsW es=Pl.spansL l:=by
 subst hl
 unfold spnsW Pl.spansL
 rw [List.map_map]
 refine List.map_congr_left (fun x hx=>?_)
 have hp:x.pc∈es.map En.pc:=List.mem_map.2 ⟨x,hx,rfl⟩
 obtain ⟨h1,h2⟩:=zbd hlat _ hp
 have h3:=hm _ hp
 have:=zdx (x:=x) ⟨show 0<x.pc.1 by omega,h2,h3⟩
 unfold spW
 rw [this];rfl
theorem gaps_in {s:Pl.Rx} {ds:List Int} {x hi:Int} (hs:s.ok) (hm:∀ p∈s.l,Pl.pend p≤1125899906842624):∀ g∈gapsL (Pl.spansL s.l) (Pl.maxJ x s.n) (Pl.minJ (x+(ds.length:Int)) hi),x≤g.1∧g.1<g.2∧g.2≤x+(ds.length:Int)∧s.n≤g.1∧g.2≤hi:=fun g hg=>by
 have hc:=zc4 hs hm
 have hmx:=Pl.max_ge x s.n
 have hmn:=Pl.min_le (x+(ds.length:Int)) hi
 have hG:∀ o,Has (gapsL (Pl.spansL s.l) (Pl.maxJ x s.n) (Pl.minJ (x+(ds.length:Int)) hi)) o↔Pl.maxJ x s.n≤o∧o<Pl.minJ (x+(ds.length:Int)) hi∧¬Has (Pl.spansL s.l) o:=fun o=>ze8 hc
 have h1:g.1<g.2:=ze9 g hg
 have h2:=(hG g.1).1 ⟨g,hg,Int.le_refl _,h1⟩
 have h3:=(hG (g.2-1)).1 ⟨g,hg,by omega,by omega⟩
 omega
structure MisTo (w wr:World) (x t:Int) (ds:List Int) (cs:List Value) (ga:Option Addr) (q gc:Nat) (gs:List Tm) (va:Option Addr) (i vc:Nat) (fs:List En):Prop where
 row:RowE wr w.heap.size va i vc fs
 fam:Fam wr w.heap.size fs
 map:fs.map En.pc=(gs.take i).map (frP x ds)
 box:Box wr w.heap.size 27 cs
 at':Box wr (w.heap.size+1) 78 [.int .i64 x,.int .i64 t]
 gps:RowT wr w.heap.size ga q gc gs
 bel:Below w.heap.size w wr
theorem MisTo.next {w wr Y w2:World} {x t:Int} {ds:List Int} {cs:List Value} {ga:Option Addr} {q gc:Nat} {gs:List Tm} {va va':Option Addr} {i vc vc':Nat} {fs:List En} {y:En} {g:Tm} (h:MisTo w wr x t ds cs ga q gc gs va i vc fs) (hY:Below wr.heap.size wr Y) (hy:y.mine Y wr.heap.size) (hg:Y.grownBy w2 (Value.slice va i vc).ownBlock) (hR:RowE w2 w.heap.size va' (i+1) vc' (fs++[y])) (hgs:gs[i]? = some g) (hyg:y.pc=frP x ds g):MisTo w w2 x t ds cs ga q gc gs va' (i+1) vc' (fs++[y]):=by
 have hrY:=h.row.later hY
 have hmv:∀ (k:Nat) (e:TypeId),e≠74→(∃ cur fr,Y.heap[k]? = some (.cells cur e fr))→w2.heap[k]? = Y.heap[k]?:=fun k e he ⟨cur,fr,h1⟩=>hg.block k (Array.getElem?_eq_some_iff.1 h1).1 (fun h2=>by
  obtain ⟨_,_,_,cur2,h3⟩:=zaj hrY (za6 h2.symm)
  exact he (za2 h1 h3))
 have hbY:=h.box.later hY
 have haY:=h.at'.later hY
 refine ⟨hR,(h.fam.snoc hY h.bel.size hy).moved (fun z hz k hk hl=>?_),?_,(hmv _ 27 (by decide) ⟨_,_,hbY⟩).trans hbY,(hmv _ 78 (by decide) ⟨_,_,haY⟩).trans haY,zaz (h.gps.later hY) (fun k hk hl=>?_),za4 (Below.on h.bel hY) (Below.on h.bel hY).size hrY hg⟩
 · obtain ⟨_,_,_,cur,e⟩:=((h.fam.snoc hY h.bel.size hy).mine z hz).lies hl
   exact hmv k 5 (by decide) ⟨_,_,e⟩
 · rw [List.map_append,h.map,List.take_add_one,hgs,List.map_append]
   simp [hyg]
 · obtain ⟨_,_,_,cur,e⟩:=zaj (h.gps.later hY) hl
   exact hmv k 78 (by decide) ⟨_,_,e⟩
theorem step_appE {w:World} {ops:Array Oper} {o:Oper} {a:Act} {K:Act→World→Prop} {Q:Exit→Act→World→Prop} {E:Prop} (hgd:o.guard=none) (s x:Operand)
 (ho:o.op=.call { callee:=.builtin .append,args:=#[s,x],argTypes:=#[23,23]})
 (B:Nat) (va:Option Addr) (n vc:Nat) (xs:List En) (A:Addr) (y:En) (hs:a.eval s=.slice va n vc) (hx:a.eval x=.slice (some A) 1 1)
 (hO:RowE w B va n vc xs) (hB:B≤w.heap.size) (hT:za5 w (some A) [y]) (hb:(n+1)*32≤140737488355328)
 (h:∀ va' vc' w',RowE w' B va' (n+1) vc' (xs++[y])→w.grownBy w' (Value.slice va n vc).ownBlock→K (a.put o.dst (.slice va' (n+1) vc')) w') :
 if Region.wanted o (yielded ops a.tmps)=true then Oper.wp Try.prog o a w K Q else E:=by
 have hw:Region.wanted o (yielded ops a.tmps)=true:=by simp [Region.wanted,hgd]
 rw [if_pos hw]
 obtain ⟨va',vc',w',hr,h1,h2,h3⟩:=zdp w B va n vc xs hO hB (some A) 1 1 [y] o.type hT rfl (fun h=>by cases h) hb
 unfold Oper.wp execOp
 simp only [ho,resolve,invoke,builtin,Sem.run_bind,Sem.run_pure,Result.andThen_ok,List.map_toArray,List.map_cons,List.map_nil,hs,hx,hr]
 exact h va' vc' w' h1 h2
set_option maxRecDepth 100000 in
set_option maxHeartbeats 8000000 in
theorem missing_any (r:Pl.Rv) (h:Hd) (x t:Int) (da:Option Addr) (dl dc:Nat) (ds:List Int) (w:World) (H:RvAt w r h) (hlow:lowB r) (hlat:Pl.latB r.s.n r.s.l) (hlm:∀ p∈r.s.l,Pl.pend p≤562949953421312) (hd:SlAt w da dc ds) (hdl:ds.length=dl) (ht:x+(dl:Int)=t) (hx:-2147483648≤x∧x≤1125899906842624) :
 Calls Try.prog 62 #[.agg #[.int .i64 r.s.n,.slice h.ua r.s.u.length h.uc,.slice h.la h.es.length h.lc,.int .i64 r.cap,.int .i64 r.shift,.int .i64 r.edge,.int .u32 r.recent,.bool r.stamps,.bool r.sacks,.int .i64 r.fin,.bool r.dn,.slice h.fa r.first.length h.fc,.int .u32 r.irs,.int .u32 r.own,.bool r.stamp],.agg #[.int .i64 x,.int .i64 t],.slice da dl dc] w fun e w'=>∃ (fs:List En) (va:Option Addr) (vc:Nat),e=.returned (.slice va fs.length vc)∧RowE w' w.heap.size va fs.length vc fs∧Fam w' w.heap.size fs∧fs.map En.pc=(gapsL (Pl.spansL r.s.l) (Pl.maxJ x r.s.n) (Pl.minJ (x+(ds.length:Int)) (zbn r))).map (frP x ds)∧Below w.heap.size w w':=by
 obtain ⟨W0,hW0⟩:∃ W0,(w.alloc (.cells #[.int .i64 r.s.n,.slice h.ua r.s.u.length h.uc,.slice h.la h.es.length h.lc,.int .i64 r.cap,.int .i64 r.shift,.int .i64 r.edge,.int .u32 r.recent,.bool r.stamps,.bool r.sacks,.int .i64 r.fin,.bool r.dn,.slice h.fa r.first.length h.fc,.int .u32 r.irs,.int .u32 r.own,.bool r.stamp] 27)).alloc (.cells #[.int .i64 x,.int .i64 t] 78)=W0:=⟨_,rfl⟩
 have b0:Below w.heap.size w W0:=by rw [← hW0];exact zaa (zaa (Below.refl _ _) _) _
 have hX:Box W0 w.heap.size 27 (rvL r h):=by rw [← hW0];exact Box.alloc (Box.new w 27 (rvL r h)) _
 have hA:Box W0 (w.heap.size+1) 78 [.int .i64 x,.int .i64 t]:=by rw [← hW0];have:=Box.new (w.alloc (.cells (rvL r h).toArray 27)) 78 [.int .i64 x,.int .i64 t];rwa [World.size_alloc] at this
 have hs0:W0.heap.size=w.heap.size+2:=by rw [← hW0];simp
 have hdr:=hd.1.1
 rw [hdl] at hdr
 have cB:=fun W=>zgo r h W hlow
 obtain ⟨bd,hbd⟩:∃ bd,zbn r=bd:=⟨_,rfl⟩
 simp only [hbd] at cB
 obtain ⟨mx,hmx⟩:∃ mx,(if x<r.s.n then r.s.n else x)=mx:=⟨_,rfl⟩
 obtain ⟨mn,hmn⟩:∃ mn,(if bd<t then bd else t)=mn:=⟨_,rfl⟩
 have h10:lowB r:=hlow
 have hspn:=spns_fit (lo:=r.s.n) H.les h10.1.1 hlat hlm
 have hlm2:∀ p∈r.s.l,Pl.pend p≤1125899906842624:=fun p hp=>by have:=hlm p hp;omega
 have hchk:chk (-1) (Pl.spansL r.s.l)=true:=zc4 (hlat.mono (by have:=h10.1.1;omega)) hlm2
 obtain ⟨gs,hgs⟩:∃ gs,gapsL (Pl.spansL r.s.l) mx mn=gs:=⟨_,rfl⟩
 have e1:Pl.maxJ x r.s.n=mx:=by rw [← hmx];rfl
 have e2:Pl.minJ (x+(ds.length:Int)) bd=mn:=by rw [hdl,ht,← hmn];rfl
 have hgin:=gaps_in (s:=r.s) (ds:=ds) (x:=x) (hi:=bd) hlat hlm2
 rw [e1,e2,hgs] at hgin
 have hgv:gapsV (spnsW h.es) (mx,mn)=gs:=by unfold gapsV;rw [hspn,if_pos hchk];exact hgs
 have hgl:gs.length≤h.es.length+1:=by
  have:=zef (Pl.spansL r.s.l) mx mn
  rw [hgs] at this
  have h2:(Pl.spansL r.s.l).length=h.es.length:=by unfold Pl.spansL;rw [List.length_map];exact H.len
  omega
 have hre:=H.late.reach
 have HH:Hid (RvAt w r h∧SlAt w da dc ds∧ds.length=dl∧x+(dl:Int)=t∧gapsV (spnsW h.es) (mx,mn)=gs∧gapsL (Pl.spansL r.s.l) (Pl.maxJ x r.s.n) (Pl.minJ (x+(ds.length:Int)) (zbn r))=gs):=⟨H,hd,hdl,ht,hgv,by rw [hbd,e1,e2];exact hgs⟩
 have HG:Hid (∀ g∈gs,x≤g.1∧g.1<g.2∧g.2≤x+(ds.length:Int)∧r.s.n≤g.1∧g.2≤bd):=hgin
 have HX:Hid (Box W0 w.heap.size 27 (rvL r h)∧Box W0 (w.heap.size+1) 78 [.int .i64 x,.int .i64 t]∧W0.heap.size=w.heap.size+2∧Below w.heap.size w W0):=⟨hX,hA,hs0,b0⟩
 have HHB:Hid (RvAt w r h):=H
 rw [show (x+(ds.length:Int))=t by rw [hdl];exact ht] at HG
 clear H hlow hlat hlm hd hdl hX hA hs0 b0 h10 hspn hlm2 hchk hgs e1 e2 hgin hgv hbd ht
 rw [HH.out.2.2.2.2.2]
 go_enter Try.func62,Try.ntmps62
 go_upto_region 2 with fail
 clear hW0
 go_cut [8] (fun v8 wx=>∃ p:Nat,v8=.pointer (some ⟨p,0,none⟩)∧Hid (Box wx p 78 [.int .i64 mx,.int .i64 mn]∧Below W0.heap.size W0 wx))
 case first =>
  obtain ⟨S,hS⟩:∃ S:World→Prop,S=fun W=>W.cell? ⟨w.heap.size,0,none⟩=some (.int .i64 r.s.n)∧W.cell? ⟨w.heap.size,1,none⟩=some (.slice h.ua r.s.u.length h.uc)∧W.cell? ⟨w.heap.size,2,none⟩=some (.slice h.la h.es.length h.lc)∧W.cell? ⟨w.heap.size,3,none⟩=some (.int .i64 r.cap)∧W.cell? ⟨w.heap.size,4,none⟩=some (.int .i64 r.shift)∧W.cell? ⟨w.heap.size,5,none⟩=some (.int .i64 r.edge)∧W.cell? ⟨w.heap.size,6,none⟩=some (.int .u32 r.recent)∧W.cell? ⟨w.heap.size,7,none⟩=some (.bool r.stamps)∧W.cell? ⟨w.heap.size,8,none⟩=some (.bool r.sacks)∧W.cell? ⟨w.heap.size,9,none⟩=some (.int .i64 r.fin)∧W.cell? ⟨w.heap.size,10,none⟩=some (.bool r.dn)∧W.cell? ⟨w.heap.size,11,none⟩=some (.slice h.fa r.first.length h.fc)∧W.cell? ⟨w.heap.size,12,none⟩=some (.int .u32 r.irs)∧W.cell? ⟨w.heap.size,13,none⟩=some (.int .u32 r.own)∧W.cell? ⟨w.heap.size,14,none⟩=some (.bool r.stamp)∧W.cell? ⟨w.heap.size+1,0,none⟩=some (.int .i64 x)∧W.cell? ⟨w.heap.size+1,1,none⟩=some (.int .i64 t):=⟨_,rfl⟩
  have HSK:Hid (∀ W,Below W0.heap.size W0 W→S W):=fun W hW=>by
   rw [hS]
   obtain ⟨c0,c1,c2,c3,c4,c5,c6,c7,c8,c9,c10,c11,c12,c13,c14⟩:=Box.c15 (HX.out.1.later hW)
   exact ⟨c0,c1,c2,c3,c4,c5,c6,c7,c8,c9,c10,c11,c12,c13,c14,(HX.out.2.1.later hW).cell 0 rfl,(HX.out.2.1.later hW).cell 1 rfl⟩
  have z9:∀ {ps:String} (ev:Operand→Value),ev (.tmp 17)=.int .i64 t→ev (.tmp 19)=.int .i64 bd→∀ W,S W→(execOp ev ⟨some 20,.call { callee:=.builtin .min,args:=#[.tmp 17,.tmp 19],argTypes:=#[3,3]},3,ps,#[⟨6,.data⟩,⟨8,.data⟩],none⟩).run Try.prog W=.ok (.value (.int .i64 mn)) W:=by
   intro ps ev h0 h1 W hSw
   rw [hS] at hSw
   try dsimp only at hSw
   first|(go_simp;done)|(go_simp;with_reducible rfl)
  have z10:∀ {ps:String} (ev:Operand→Value),ev (.tmp 15)=.int .i64 mx→ev (.tmp 20)=.int .i64 mn→∀ W,S W→(execOp ev ⟨some 21,.build 78 #[(0,.tmp 15),(1,.tmp 20)],78,ps,#[⟨4,.data⟩,⟨9,.data⟩],none⟩).run Try.prog W=.ok (.value (.agg #[.int .i64 mx,.int .i64 mn])) W:=by
   intro ps ev h0 h1 W hSw
   rw [hS] at hSw
   try dsimp only at hSw
   first|(go_simp;done)|(go_simp;with_reducible rfl)
  obtain ⟨y0,y1,y2,y3,y4,y5,y6,y7⟩:(∀ {ps} (ev:EV),ev (.tmp 4)=.pointer (some ⟨w.heap.size+1,0,none⟩)→Yl Try.prog S ev ⟨some 11,.fieldAddr 78 (.tmp 4) 0,0,ps,#[],none⟩ ((.pointer (some ⟨w.heap.size+1,0,none⟩))))∧(∀ {ps} (ev:EV),ev (.tmp 11)=.pointer (some ⟨w.heap.size+1,0,none⟩)→Yl Try.prog S ev ⟨some 12,.load 3 (.tmp 11),3,ps,#[⟨0,.data⟩],none⟩ ((.int .i64 x)))∧(∀ {ps} (ev:EV),ev (.tmp 3)=.pointer (some ⟨w.heap.size,0,none⟩)→Yl Try.prog S ev ⟨some 13,.fieldAddr 27 (.tmp 3) 0,0,ps,#[],none⟩ ((.pointer (some ⟨w.heap.size,0,none⟩))))∧(∀ {ps} (ev:EV),ev (.tmp 13)=.pointer (some ⟨w.heap.size,0,none⟩)→Yl Try.prog S ev ⟨some 14,.load 3 (.tmp 13),3,ps,#[⟨2,.data⟩],none⟩ ((.int .i64 r.s.n)))∧(∀ {ps} (ev:EV),ev (.tmp 12)=.int .i64 x→ev (.tmp 14)=.int .i64 r.s.n→Yl Try.prog S ev ⟨some 15,.call { callee:=.builtin .max,args:=#[.tmp 12,.tmp 14],argTypes:=#[3,3]},3,ps,#[⟨1,.data⟩,⟨3,.data⟩],none⟩ ((.int .i64 mx)))∧(∀ {ps} (ev:EV),ev (.tmp 4)=.pointer (some ⟨w.heap.size+1,0,none⟩)→Yl Try.prog S ev ⟨some 16,.fieldAddr 78 (.tmp 4) 1,0,ps,#[],none⟩ ((.pointer (some ⟨w.heap.size+1,1,none⟩))))∧(∀ {ps} (ev:EV),ev (.tmp 16)=.pointer (some ⟨w.heap.size+1,1,none⟩)→Yl Try.prog S ev ⟨some 17,.load 3 (.tmp 16),3,ps,#[⟨5,.data⟩],none⟩ ((.int .i64 t)))∧(∀ {ps} (ev:EV),ev (.tmp 3)=.pointer (some ⟨w.heap.size,0,none⟩)→Yl Try.prog S ev ⟨some 18,.load 27 (.tmp 3),27,ps,#[],none⟩ ((.agg #[.int .i64 r.s.n,.slice h.ua r.s.u.length h.uc,.slice h.la h.es.length h.lc,.int .i64 r.cap,.int .i64 r.shift,.int .i64 r.edge,.int .u32 r.recent,.bool r.stamps,.bool r.sacks,.int .i64 r.fin,.bool r.dn,.slice h.fa r.first.length h.fc,.int .u32 r.irs,.int .u32 r.own,.bool r.stamp]))):=by
   refine ⟨?_,?_,?_,?_,?_,?_,?_,?_⟩<;>(intros;intro W hSw;rw [hS] at hSw;(try dsimp only at hSw);go_simp<;>with_reducible rfl)
  refine zaq S 12 (by kernel_rfl) (HSK.out _ (by repeat (first|with_reducible exact Below.refl _ _|with_reducible assumption|with_reducible refine Below.drew ?_|with_reducible refine zad ?_ _|with_reducible refine zaa ?_ _))) (fun hHeld=>?_)
  refine zk 0 (y0 _ rfl) ?_
  try simp only [Act.put,qA,qZ,qS]
  refine zk 1 (y1 _ rfl) ?_
  try simp only [Act.put,qA,qZ,qS]
  refine zk 2 (y2 _ rfl) ?_
  try simp only [Act.put,qA,qZ,qS]
  refine zk 3 (y3 _ rfl) ?_
  try simp only [Act.put,qA,qZ,qS]
  refine zk 4 (y4 _ rfl rfl) ?_
  try simp only [Act.put,qA,qZ,qS]
  refine zk 5 (y5 _ rfl) ?_
  try simp only [Act.put,qA,qZ,qS]
  refine zk 6 (y6 _ rfl) ?_
  try simp only [Act.put,qA,qZ,qS]
  refine zk 7 (y7 _ rfl) ?_
  try simp only [Act.put,qA,qZ,qS]
  refine zfg (i:=8) (j:=11) (o:=⟨some 19,.call { callee:=.value (.func 53),args:=#[.tmp 18],argTypes:=#[27]},3,_,#[⟨7,.data⟩],none⟩) (o':=⟨some 8,.alloc 78,0,_,#[],none⟩) (by kernel_rfl) rfl rfl (fun K hK=>?_) (fun K hK=>?_)
  · rw [if_pos (by rfl)]
    go_simp
    refine (cB _).mono ?_
    rintro e w1 ⟨rfl,hB1⟩
    have hb1:Below W0.heap.size W0 w1:=Below.on (by repeat (first|with_reducible exact Below.refl _ _|with_reducible assumption|with_reducible refine Below.drew ?_|with_reducible refine zad ?_ _|with_reducible refine zaa ?_ _)) hB1
    have hH1:=HSK.out _ hb1
    refine hK.out _ _ ⟨fun _=>hH1,?_⟩
    clear hK K hHeld
    try simp only [Act.put,qA,qZ,qS]
    refine zk 9 (z9 _ rfl rfl) ?_
    try simp only [Act.put,qA,qZ,qS]
    refine zk 10 (z10 _ rfl rfl) ?_
    try simp only [Act.put,qA,qZ,qS]
    refine zah (i:=11) (o:=⟨some 8,.alloc 78,0,_,#[],none⟩) (by kernel_rfl) rfl (fun K hK=>?_)
    rw [if_pos (by rfl)]
    go_simp
    refine hK.out _ _ ⟨fun _=>HSK.out _ (by repeat (first|with_reducible exact Below.refl _ _|with_reducible assumption|with_reducible refine Below.drew ?_|with_reducible refine zad ?_ _|with_reducible refine zaa ?_ _)),?_⟩
    clear hK K
    try simp only [Act.put,qA,qZ,qS]
    refine zah (i:=12) (o:=⟨none,.store 78 (.tmp 8) (.tmp 21),0,_,#[⟨11,.data⟩,⟨10,.data⟩,⟨8,.chain⟩,⟨0,.phase⟩,⟨1,.phase⟩,⟨2,.phase⟩,⟨3,.phase⟩,⟨4,.phase⟩,⟨5,.phase⟩,⟨6,.phase⟩,⟨7,.phase⟩,⟨8,.phase⟩,⟨9,.phase⟩,⟨10,.phase⟩,⟨11,.phase⟩],none⟩) (by kernel_rfl) rfl (fun K hK=>?_)
    rw [if_pos (by rfl)]
    go_simp
    refine hK.out _ _ ⟨fun h=>absurd rfl h,?_⟩
    clear hK K
    refine zax (by kernel_rfl) ?_ _
    try simp only [Act.put,qA,qZ,qS]
    clear y0 y1 y2 y3 y4 y5 y6 y7 z9 z10 hS HSK
    go_wp2_with fail
    go_meet
    exact ⟨_,rfl,Box.new w1 78 [.int .i64 mx,.int .i64 mn],by repeat (first|with_reducible exact Below.refl _ _|with_reducible assumption|with_reducible refine Below.drew ?_|with_reducible refine zad ?_ _|with_reducible refine zaa ?_ _)⟩
  · rw [if_pos (by rfl)]
    go_simp
    have hz0:=Box.new W0.drew 78 [.int .i64 0,.int .i64 0]
    refine hK.out _ _ ⟨fun _=>HSK.out _ (by repeat (first|with_reducible exact Below.refl _ _|with_reducible assumption|with_reducible refine Below.drew ?_|with_reducible refine zad ?_ _|with_reducible refine zaa ?_ _)),?_⟩
    clear hK K hHeld
    try simp only [Act.put,qA,qZ,qS]
    refine zah (i:=8) (o:=⟨some 19,.call { callee:=.value (.func 53),args:=#[.tmp 18],argTypes:=#[27]},3,_,#[⟨7,.data⟩],none⟩) (by kernel_rfl) rfl (fun K hK=>?_)
    rw [if_pos (by rfl)]
    go_simp
    refine (cB _).mono ?_
    rintro e w1 ⟨rfl,hB1⟩
    have hb1:Below W0.heap.size W0 w1:=Below.on (by repeat (first|with_reducible exact Below.refl _ _|with_reducible assumption|with_reducible refine Below.drew ?_|with_reducible refine zad ?_ _|with_reducible refine zaa ?_ _)) hB1
    have hH1:=HSK.out _ hb1
    have hz1:=hz0.later hB1
    refine hK.out _ _ ⟨fun _=>hH1,?_⟩
    clear hK K
    try simp only [Act.put,qA,qZ,qS]
    refine zk 9 (z9 _ rfl rfl) ?_
    try simp only [Act.put,qA,qZ,qS]
    refine zk 10 (z10 _ rfl rfl) ?_
    try simp only [Act.put,qA,qZ,qS]
    have q0:w1.cell? ⟨W0.heap.size,0,none⟩=some (.int .i64 0):=hz1.cell 0 rfl
    have q1:w1.cell? ⟨W0.heap.size,1,none⟩=some (.int .i64 0):=hz1.cell 1 rfl
    have f0:w1.frozen? ⟨W0.heap.size,0,none⟩=false:=hz1.frozen 0
    have f1:w1.frozen? ⟨W0.heap.size,1,none⟩=false:=hz1.frozen 1
    refine zah (i:=12) (o:=⟨none,.store 78 (.tmp 8) (.tmp 21),0,_,#[⟨11,.data⟩,⟨10,.data⟩,⟨8,.chain⟩,⟨0,.phase⟩,⟨1,.phase⟩,⟨2,.phase⟩,⟨3,.phase⟩,⟨4,.phase⟩,⟨5,.phase⟩,⟨6,.phase⟩,⟨7,.phase⟩,⟨8,.phase⟩,⟨9,.phase⟩,⟨10,.phase⟩,⟨11,.phase⟩],none⟩) (by kernel_rfl) rfl (fun K hK=>?_)
    rw [if_pos (by rfl)]
    go_simp
    refine hK.out _ _ ⟨fun h=>absurd rfl h,?_⟩
    clear hK K
    refine zax (by kernel_rfl) ?_ _
    try simp only [Act.put,qA,qZ,qS]
    clear y0 y1 y2 y3 y4 y5 y6 y7 z9 z10 hS HSK q0 q1 f0 f1
    go_wp2_with fail
    go_meet
    exact ⟨_,rfl,hz1.put [.int .i64 mx,.int .i64 mn] rfl,zaf (vs:=[.int .i64 mx,.int .i64 mn]) (i:=0) (Nat.le_refl _) hb1⟩
 case rest =>
  obtain ⟨p,rfl,HC⟩:=hcut
  clear cB hmx hmn
  obtain ⟨L,hL⟩:∃ L,h.es.length=L:=⟨_,rfl⟩
  have hbw:Below w.heap.size w wc:=Below.on HX.out.2.2.2 HC.out.2
  have HS:Hid (∀ W,Below wc.heap.size wc W→W.cell? ⟨w.heap.size,2,none⟩=some (.slice h.la L h.lc)∧W.cell? ⟨p,0,none⟩=some (.int .i64 mx)∧W.cell? ⟨p,1,none⟩=some (.int .i64 mn)∧Below wc.heap.size wc W):=fun W hW=>by
   have h1:=((HX.out.1.later HC.out.2).later hW).cell 2 rfl
   rw [hL] at h1
   exact ⟨h1,(HC.out.1.later hW).cell 0 rfl,(HC.out.1.later hW).cell 1 rfl,hW⟩
  have cR:∀ W,Below wc.heap.size wc W→Calls Try.prog 51 #[.slice h.la L h.lc] W fun e w'=>∃ va vc,e=.returned (.slice va L vc)∧RowT w' wc.heap.size va L vc (spnsW h.es)∧Below wc.heap.size wc w':=fun W hW=>by
   have:=rowOf_any h.la h.lc h.es W (HHB.out.late.later (Below.on hbw hW))
   rw [hL] at this
   refine this.mono ?_
   rintro e w' ⟨va,vc,rfl,hR,hB⟩
   exact ⟨va,vc,rfl,hR.mono hW.size,Below.on hW hB⟩
  have cG:∀ va vc W,RowT W wc.heap.size va L vc (spnsW h.es)→Below wc.heap.size wc W→Calls Try.prog 77 #[.slice va L vc,.agg #[.int .i64 mx,.int .i64 mn]] W fun e w'=>∃ ga gc,e=.returned (.slice ga gs.length gc)∧RowT w' wc.heap.size ga gs.length gc gs∧Below wc.heap.size wc w':=fun va vc W hR hW=>by
   have h1:(spnsW h.es).length=L:=by unfold spnsW;rw [List.length_map,hL]
   have:=gaps_any va vc (spnsW h.es) (mx,mn) W hR.tims (by rw [h1];omega)
   rw [h1,HH.out.2.2.2.2.1] at this
   refine this.mono ?_
   rintro e w' ⟨ga,gc,rfl,hR,hB⟩
   exact ⟨ga,gc,rfl,hR.mono hW.size,Below.on hW hB⟩
  rw [hL] at hgl hre
  have HLL:Hid (h.es.length=L):=hL
  obtain ⟨q,hq⟩:∃ q,gs.length=q:=⟨_,rfl⟩
  rw [hq] at hgl
  simp only [hq] at cG
  have HQ:Hid (gs.length=q):=hq
  clear hL hq
  go_wp2_with fail
  go_cut [26,27,28] (fun v26 v27 v28 wx=>∃ (ga:Option Addr) (gc:Nat),v26=.slice ga q gc∧v27=.int .i64 (q:Int)∧v28=.int .i64 0∧Hid (RowT wx wc.heap.size ga q gc gs∧Below wc.heap.size wc wx))
  case first =>
   go_region_held3 (fun W=>W.cell? ⟨w.heap.size,2,none⟩=some (.slice h.la L h.lc)∧W.cell? ⟨p,0,none⟩=some (.int .i64 mx)∧W.cell? ⟨p,1,none⟩=some (.int .i64 mn)∧Below wc.heap.size wc W)
    (exact HS.out _ (by repeat (first|with_reducible exact Below.refl _ _|with_reducible assumption|with_reducible refine Below.drew ?_|with_reducible refine zad ?_ _|with_reducible refine zaa ?_ _)))
    (first
     | (go_at_call 51;refine (cR _ (by repeat (first|with_reducible exact Below.refl _ _|with_reducible assumption|with_reducible refine Below.drew ?_|with_reducible refine zad ?_ _|with_reducible refine zaa ?_ _))).mono ?_;rintro e w1 ⟨va,vc,rfl,hR1,hb1⟩)
     | (go_at_call 77;refine (cG _ _ _ hR1 hb1).mono ?_;rintro e w2 ⟨ga,gc,rfl,hR2,hb2⟩))
   go_wp2_with fail
   go_meet
   exact ⟨ga,gc,rfl,rfl,rfl,hR2,hb2⟩
  case rest =>
   clear cR cG HS
   obtain ⟨ga,gc,rfl,rfl,rfl,HR⟩:=hcut
   rename_i wb
   have HI0:Hid (MisTo w wc x t ds [.int .i64 r.s.n,.slice h.ua r.s.u.length h.uc,.slice h.la h.es.length h.lc,.int .i64 r.cap,.int .i64 r.shift,.int .i64 r.edge,.int .u32 r.recent,.bool r.stamps,.bool r.sacks,.int .i64 r.fin,.bool r.dn,.slice h.fa r.first.length h.fc,.int .u32 r.irs,.int .u32 r.own,.bool r.stamp] ga q gc gs none 0 0 []):=by
    have hb:Below W0.heap.size W0 wc:=Below.on HC.out.2 HR.out.2
    exact ⟨RowE.nil _ _,Fam.nil _ _,by simp,HX.out.1.later hb,HX.out.2.1.later hb,HR.out.1.mono hbw.size,Below.on HX.out.2.2.2 hb⟩
   clear HR HC hbw
   go_wp2_with fail
   go_loopw [7,28] (fun v7 vi wr=>∃ (i:Nat) (va:Option Addr) (vc:Nat) (fs:List En),v7=.slice va i vc∧vi=.int .i64 i∧i≤q∧Hid (MisTo w wr x t ds [.int .i64 r.s.n,.slice h.ua r.s.u.length h.uc,.slice h.la h.es.length h.lc,.int .i64 r.cap,.int .i64 r.shift,.int .i64 r.edge,.int .u32 r.recent,.bool r.stamps,.bool r.sacks,.int .i64 r.fin,.bool r.dn,.slice h.fa r.first.length h.fc,.int .u32 r.irs,.int .u32 r.own,.bool r.stamp] ga q gc gs va i vc fs))
    (fun v7 vi _=>q-(intOf vi).toNat)
   case atStart=>exact ⟨0,none,0,[],rfl,rfl,Nat.zero_le _,HI0.out⟩
   case round =>
    clear HI0
    obtain ⟨i,va,vc,fs,rfl,rfl,hiq,HI⟩:=hrel
    by_cases hlt:i<q
    · obtain ⟨b,o,hga,hc0,hc1⟩:=HI.out.gps.tims.2 i (by rw [HQ.out];omega)
      obtain ⟨g,hg⟩:∃ g,gs[i]?.getD (0,0)=g:=⟨_,rfl⟩
      rw [hg] at hc0 hc1
      have hgs:gs[i]? = some g:=by
       have h1:i<gs.length:=by rw [HQ.out];omega
       rw [List.getElem?_eq_getElem h1] at hg ⊢
       simpa using hg
      obtain ⟨g1,g2,g3,g4,g5⟩:=HG.out g (List.mem_of_getElem? hgs)
      obtain ⟨fN,hfN⟩:∃ fN:Nat,g.1-x=(fN:Int):=⟨(g.1-x).toNat,by omega⟩
      obtain ⟨tN,htN⟩:∃ tN:Nat,g.2-x=(tN:Int):=⟨(g.2-x).toNat,by omega⟩
      have hxt:=HH.out.2.2.2.1
      have hdc:=HH.out.2.1.2.2
      rw [HH.out.2.2.1] at hdc
      have hNb:fN<tN∧tN≤dl:=by omega
      have hw8:IntKind.i64.wrap (g.1-x)=(fN:Int):=by rw [hfN,IntKind.wrap_i64];omega
      have hw13:IntKind.i64.wrap (g.2-x)=(tN:Int):=by rw [htN,IntKind.wrap_i64];omega
      have hsl:=fun W=>sl_lh da dl dc fN tN (fN:Int) (tN:Int) rfl rfl (by omega) (by omega) W
      have HN:Hid (g.1-x=(fN:Int)∧g.2-x=(tN:Int)∧gs[i]? = some g∧fN<tN∧tN≤dl):=⟨hfN,htN,hgs,hNb.1,hNb.2⟩
      have hii:(i:Int)<(q:Int):=by omega
      subst hga
      clear hg hgs g1 g2 g3 g4 g5 hfN htN hxt hdc hNb
      go_upto_region 6 with fail
      clear hc0 hc1
      have HXB:Hid (Box (wr.alloc (.cells #[.int .i64 g.1,.int .i64 g.2] 78)) wr.heap.size 78 [.int .i64 g.1,.int .i64 g.2]∧Below wr.heap.size wr (wr.alloc (.cells #[.int .i64 g.1,.int .i64 g.2] 78))):=⟨Box.new _ _ _,zaa (Below.refl _ _) _⟩
      obtain ⟨X,hX⟩:∃ X,wr.alloc (.cells #[.int .i64 g.1,.int .i64 g.2] 78)=X:=⟨_,rfl⟩
      rw [hX] at HXB ⊢
      clear hX
      obtain ⟨S,hS⟩:∃ S:World→Prop,S=fun W=>W.cell? ⟨w.heap.size+1,0,none⟩=some (.int .i64 x)∧W.cell? ⟨wr.heap.size,0,none⟩=some (.int .i64 g.1)∧W.cell? ⟨wr.heap.size,1,none⟩=some (.int .i64 g.2):=⟨_,rfl⟩
      have HSK:Hid (∀ W,Below X.heap.size X W→S W):=fun W hW=>by
       have hwr:=Below.on HXB.out.2 hW
       rw [hS]
       exact ⟨(HI.out.at'.later hwr).cell 0 rfl,(HXB.out.1.later hW).cell 0 rfl,(HXB.out.1.later hW).cell 1 rfl⟩
      obtain ⟨y0,y1,y2,y3,y4,y5,y6,y7,y8,y9,y10,y11,y12,y13,y14⟩:(∀ {ps} (ev:EV),ev (.tmp 7)=.slice va i vc→Yl Try.prog S ev ⟨some 32,.move (.tmp 7),23,ps,#[],none⟩ ((.slice va i vc)))∧(∀ {ps} (ev:EV),ev (.tmp 10)=.pointer (some ⟨wr.heap.size,0,none⟩)→Yl Try.prog S ev ⟨some 33,.fieldAddr 78 (.tmp 10) 0,0,ps,#[],none⟩ ((.pointer (some ⟨wr.heap.size,0,none⟩))))∧(∀ {ps} (ev:EV),ev (.tmp 33)=.pointer (some ⟨wr.heap.size,0,none⟩)→Yl Try.prog S ev ⟨some 34,.load 3 (.tmp 33),3,ps,#[⟨1,.data⟩],none⟩ ((.int .i64 g.1)))∧(∀ {ps} (ev:EV),ev (.tmp 2)=.slice da dl dc→Yl Try.prog S ev ⟨some 35,.move (.tmp 2),22,ps,#[],none⟩ ((.slice da dl dc)))∧(∀ {ps} (ev:EV),ev (.tmp 10)=.pointer (some ⟨wr.heap.size,0,none⟩)→Yl Try.prog S ev ⟨some 36,.fieldAddr 78 (.tmp 10) 0,0,ps,#[],none⟩ ((.pointer (some ⟨wr.heap.size,0,none⟩))))∧(∀ {ps} (ev:EV),ev (.tmp 36)=.pointer (some ⟨wr.heap.size,0,none⟩)→Yl Try.prog S ev ⟨some 37,.load 3 (.tmp 36),3,ps,#[⟨4,.data⟩],none⟩ ((.int .i64 g.1)))∧(∀ {ps} (ev:EV),ev (.tmp 4)=.pointer (some ⟨w.heap.size+1,0,none⟩)→Yl Try.prog S ev ⟨some 38,.fieldAddr 78 (.tmp 4) 0,0,ps,#[],none⟩ ((.pointer (some ⟨w.heap.size+1,0,none⟩))))∧(∀ {ps} (ev:EV),ev (.tmp 38)=.pointer (some ⟨w.heap.size+1,0,none⟩)→Yl Try.prog S ev ⟨some 39,.load 3 (.tmp 38),3,ps,#[⟨6,.data⟩],none⟩ ((.int .i64 x)))∧(∀ {ps} (ev:EV),ev (.tmp 37)=.int .i64 g.1→ev (.tmp 39)=.int .i64 x→Yl Try.prog S ev ⟨some 40,.binOp .sub 3 (.tmp 37) (.tmp 39) 3,3,ps,#[⟨5,.data⟩,⟨7,.data⟩],none⟩ ((.int .i64 (fN:Int))))∧(∀ {ps} (ev:EV),ev (.tmp 10)=.pointer (some ⟨wr.heap.size,0,none⟩)→Yl Try.prog S ev ⟨some 41,.fieldAddr 78 (.tmp 10) 1,0,ps,#[],none⟩ ((.pointer (some ⟨wr.heap.size,1,none⟩))))∧(∀ {ps} (ev:EV),ev (.tmp 41)=.pointer (some ⟨wr.heap.size,1,none⟩)→Yl Try.prog S ev ⟨some 42,.load 3 (.tmp 41),3,ps,#[⟨9,.data⟩],none⟩ ((.int .i64 g.2)))∧(∀ {ps} (ev:EV),ev (.tmp 4)=.pointer (some ⟨w.heap.size+1,0,none⟩)→Yl Try.prog S ev ⟨some 43,.fieldAddr 78 (.tmp 4) 0,0,ps,#[],none⟩ ((.pointer (some ⟨w.heap.size+1,0,none⟩))))∧(∀ {ps} (ev:EV),ev (.tmp 43)=.pointer (some ⟨w.heap.size+1,0,none⟩)→Yl Try.prog S ev ⟨some 44,.load 3 (.tmp 43),3,ps,#[⟨11,.data⟩],none⟩ ((.int .i64 x)))∧(∀ {ps} (ev:EV),ev (.tmp 42)=.int .i64 g.2→ev (.tmp 44)=.int .i64 x→Yl Try.prog S ev ⟨some 45,.binOp .sub 3 (.tmp 42) (.tmp 44) 3,3,ps,#[⟨10,.data⟩,⟨12,.data⟩],none⟩ ((.int .i64 (tN:Int))))∧(∀ {ps} (ev:EV),ev (.tmp 35)=.slice da dl dc→ev (.tmp 40)=.int .i64 (fN:Int)→ev (.tmp 45)=.int .i64 (tN:Int)→Yl Try.prog S ev ⟨some 46,.slice 22 (.tmp 35) (some (.tmp 40)) (some (.tmp 45)) none,22,ps,#[⟨3,.data⟩,⟨8,.data⟩,⟨13,.data⟩],none⟩ ((.slice (cutB da dc fN) (tN-fN) (dc-fN)))):=by
       refine ⟨?_,?_,?_,?_,?_,?_,?_,?_,?_,?_,?_,?_,?_,?_,?_⟩<;>(intros;intro W hSw;rw [hS] at hSw;(try dsimp only at hSw);go_simp<;>with_reducible rfl)
      refine zaq S 19 (by kernel_rfl) (HSK.out _ (by repeat (first|with_reducible exact Below.refl _ _|with_reducible assumption|with_reducible refine Below.drew ?_|with_reducible refine zad ?_ _|with_reducible refine zaa ?_ _))) (fun hHeld=>?_)
      refine zk 0 (y0 _ rfl) ?_
      try simp only [Act.put,qA,qZ,qS]
      refine zk 1 (y1 _ rfl) ?_
      try simp only [Act.put,qA,qZ,qS]
      refine zk 2 (y2 _ rfl) ?_
      try simp only [Act.put,qA,qZ,qS]
      refine zk 3 (y3 _ rfl) ?_
      try simp only [Act.put,qA,qZ,qS]
      refine zk 4 (y4 _ rfl) ?_
      try simp only [Act.put,qA,qZ,qS]
      refine zk 5 (y5 _ rfl) ?_
      try simp only [Act.put,qA,qZ,qS]
      refine zk 6 (y6 _ rfl) ?_
      try simp only [Act.put,qA,qZ,qS]
      refine zk 7 (y7 _ rfl) ?_
      try simp only [Act.put,qA,qZ,qS]
      refine zk 8 (y8 _ rfl rfl) ?_
      try simp only [Act.put,qA,qZ,qS]
      refine zk 9 (y9 _ rfl) ?_
      try simp only [Act.put,qA,qZ,qS]
      refine zk 10 (y10 _ rfl) ?_
      try simp only [Act.put,qA,qZ,qS]
      refine zk 11 (y11 _ rfl) ?_
      try simp only [Act.put,qA,qZ,qS]
      refine zk 12 (y12 _ rfl) ?_
      try simp only [Act.put,qA,qZ,qS]
      refine zk 13 (y13 _ rfl rfl) ?_
      try simp only [Act.put,qA,qZ,qS]
      refine zk 14 (y14 _ rfl rfl rfl) ?_
      try simp only [Act.put,qA,qZ,qS]
      clear hsl hw8 hw13
      have hcut:=(HH.out.2.1.later (Below.on HI.out.bel (Below.on HXB.out.2 (show Below X.heap.size X X.drew from Below.drew (Below.refl _ _))))).cut2 fN tN (by have:=HN.out.2.2.2;omega) (by rw [HH.out.2.2.1];exact HN.out.2.2.2.2)
      obtain ⟨bs,hbs⟩:∃ bs,(ds.take tN).drop fN=bs:=⟨_,rfl⟩
      rw [hbs] at hcut
      have cC:=zcl (cutB da dc fN) (dc-fN) bs X.drew hcut.1
      rw [hcut.2] at cC
      have HBS:Hid ((ds.take tN).drop fN=bs∧bs.length=tN-fN∧Byts bs∧bs.length≤140737488351232):=⟨hbs,hcut.2,hcut.1.1.2.1,hcut.1.1.1⟩
      clear hbs hcut
      refine zah (i:=15) (o:=⟨some 47,.call { callee:=.value (.func 31),args:=#[.tmp 46],argTypes:=#[22]},22,_,#[⟨14,.data⟩],none⟩) (by kernel_rfl) rfl (fun K hK=>?_)
      rw [if_pos (by rfl)]
      go_simp
      refine cC.mono ?_
      rintro e w1 ⟨ba,bc,rfl,hR1,hB1⟩
      have hb1:Below X.heap.size X w1:=Below.on (Below.drew (Below.refl _ _)) hB1
      have hH1:=HSK.out _ hb1
      refine hK.out _ _ ⟨fun _=>hH1,?_⟩
      clear hK K hHeld
      try simp only [Act.put,qA,qZ,qS]
      have z16:∀ {ps:String} (ev:Operand→Value),ev (.tmp 34)=.int .i64 g.1→ev (.tmp 47)=.slice ba (tN-fN) bc→∀ W,S W→(execOp ev ⟨some 48,.build 74 #[(0,.tmp 34),(1,.tmp 47)],74,ps,#[⟨2,.data⟩,⟨15,.data⟩],none⟩).run Try.prog W=.ok (.value (.agg #[.int .i64 g.1,.slice ba (tN-fN) bc])) W:=by
       intro ps ev h0 h1 W hSw
       rw [hS] at hSw
       try dsimp only at hSw
       first|(go_simp;done)|(go_simp;with_reducible rfl)
      refine zk 16 (z16 _ rfl rfl) ?_
      try simp only [Act.put,qA,qZ,qS]
      refine zah (i:=17) (o:=⟨some 49,.buildSlice 23 1 #[(0,.tmp 48)],23,_,#[⟨16,.data⟩],none⟩) (by kernel_rfl) rfl (fun K hK=>?_)
      rw [if_pos (by rfl)]
      go_simp
      refine hK.out _ _ ⟨fun _=>HSK.out _ (by repeat (first|with_reducible exact Below.refl _ _|with_reducible assumption|with_reducible refine Below.drew ?_|with_reducible refine zad ?_ _|with_reducible refine zaa ?_ _)),?_⟩
      clear hK K
      try simp only [Act.put,qA,qZ,qS]
      have hlen:=HBS.out.2.1
      have hyr:(⟨g.1,ba,bc,bs⟩:En).mine (w1.alloc (.cells #[.int .i64 g.1,.slice ba (tN-fN) bc] 74)) wr.heap.size:=⟨by rw [hlen];exact Row.later (hR1.mono (by have:=HXB.out.2.size;exact this)) (zaa (Below.refl _ _) _),HBS.out.2.2.1,HBS.out.2.2.2,by have h1:=HG.out g (List.mem_of_getElem? HN.out.2.2.1);have h2:=HN.out.2.1;have h3:=HN.out.2.2.2.2;have h4:=hx;unfold I64;simp only;omega⟩
      have hyY:Below wr.heap.size wr (w1.alloc (.cells #[.int .i64 g.1,.slice ba (tN-fN) bc] 74)):=zaa (Below.on HXB.out.2 hb1) _
      have hye:za5 (w1.alloc (.cells #[.int .i64 g.1,.slice ba (tN-fN) bc] 74)) (some ⟨w1.heap.size,0,none⟩) [⟨g.1,ba,bc,bs⟩]:=by
       have:=zeg w1 ⟨g.1,ba,bc,bs⟩
       rw [hlen] at this
       exact this
      refine zah (i:=18) (o:=⟨some 50,.call { callee:=.builtin .append,args:=#[.tmp 32,.tmp 49],argTypes:=#[23,23]},23,_,#[⟨0,.data⟩,⟨17,.data⟩,⟨15,.chain⟩],none⟩) (by kernel_rfl) rfl (fun K hK=>?_)
      refine step_appE rfl (.tmp 32) (.tmp 49) rfl w.heap.size va i vc fs ⟨w1.heap.size,0,none⟩ ⟨g.1,ba,bc,bs⟩ rfl rfl (HI.out.row.later hyY) (Below.on HI.out.bel hyY).size hye (by omega) ?_
      intro va2 vc2 w2 hR2 hg2
      have HNX:Hid (MisTo w w2 x t ds [.int .i64 r.s.n,.slice h.ua r.s.u.length h.uc,.slice h.la h.es.length h.lc,.int .i64 r.cap,.int .i64 r.shift,.int .i64 r.edge,.int .u32 r.recent,.bool r.stamps,.bool r.sacks,.int .i64 r.fin,.bool r.dn,.slice h.fa r.first.length h.fc,.int .u32 r.irs,.int .u32 r.own,.bool r.stamp] (some ⟨b,o,none⟩) q gc gs va2 (i+1) vc2 (fs++[⟨g.1,ba,bc,bs⟩])):=HI.out.next hyY hyr hg2 hR2 HN.out.2.2.1 (by
       show (g.1,bs)=(g.1,(ds.take (g.2-x).toNat).drop (g.1-x).toNat)
       rw [HN.out.1,HN.out.2.1,← HBS.out.1];rfl)
      have hgx:=(HXB.out.1.later (show Below X.heap.size X (w1.alloc (.cells #[.int .i64 g.1,.slice ba (tN-fN) bc] 74)) from zaa hb1 _)).grown (HI.out.row.later hyY) (by decide) hg2
      have hH2:S w2:=by
       rw [hS]
       exact ⟨HNX.out.at'.cell 0 rfl,hgx.cell 0 rfl,hgx.cell 1 rfl⟩
      clear hR1 hB1 hb1 hyr hyY hye hR2 hg2 hgx hlen
      refine hK.out _ _ ⟨fun _=>hH2,?_⟩
      clear hK K hH1
      try simp only [Act.put,qA,qZ,qS]
      refine zah (i:=19) (o:=⟨some 7,.assign (.tmp 50),23,_,#[⟨18,.data⟩,⟨18,.chain⟩,⟨0,.phase⟩,⟨1,.phase⟩,⟨2,.phase⟩,⟨3,.phase⟩,⟨4,.phase⟩,⟨5,.phase⟩,⟨6,.phase⟩,⟨7,.phase⟩,⟨8,.phase⟩,⟨9,.phase⟩,⟨10,.phase⟩,⟨11,.phase⟩,⟨12,.phase⟩,⟨13,.phase⟩,⟨14,.phase⟩,⟨15,.phase⟩,⟨16,.phase⟩,⟨17,.phase⟩,⟨18,.phase⟩],none⟩) (by kernel_rfl) rfl (fun K hK=>?_)
      rw [if_pos (by rfl)]
      go_simp
      refine hK.out _ _ ⟨fun h=>absurd rfl h,?_⟩
      clear hK K
      refine zax (by kernel_rfl) ?_ _
      try simp only [Act.put,qA,qZ,qS]
      clear y0 y1 y2 y3 y4 y5 y6 y7 y8 y9 y10 y11 y12 y13 y14 z16 hS HSK hH2 HXB HI
      go_wp2_with fail
      go_roundw
      case rel=>exact ⟨i+1,va2,vc2,_,rfl,by go_num,by omega,HNX.out⟩
      case measure=>simp [intOf];omega
    · obtain rfl:i=q:=by omega
      go_wp2_with fail
      go_ret
      have h0:=HI.out
      have hl:=h0.row.len
      refine ⟨fs,va,vc,by rw [hl];rfl,by rw [hl];exact h0.row,h0.fam,?_,h0.bel⟩
      rw [h0.map,List.take_of_length_le (by rw [HQ.out];exact Nat.le_refl _)]
end Go.Proofs.Ytkigcdmlkmcdcaa
