/- The document's Check in plain words: what it finds right is what may be. -/
import Derived.Test.YtkigcdmlkmcdcaaQZ
import Derived.Test.YtkigcdmlkmcdcaaQGJ
import Derived.Test.YtkigcdmlkmcdcaaQMChk17
import Derived.Test.YtkigcdmlkmcdcaaQMSpansW
import Derived.Test.YtkigcdmlkmcdcaaQMRefTell
import Derived.Test.YtkigcdmlkmcdcaaQMDetU
import Derived.Test.YtkigcdmlkmcdcaaQGO
namespace Go.Proofs.Ytkigcdmlkmcdcaa
open Go.ChangeShapes Go.WideShapes Go.ChangeAt Go.RowKit
set_option linter.unusedVariables false
set_option linter.unusedSimpArgs false
def bad3 (r:Pl.Rv):Bool:=decide (r.fin < -1∨(0≤r.fin∧r.fin<r.s.n)∨562949953421312<r.fin∨r.edge<0∨r.reach<r.edge)
def badL (r:Pl.Rv) (last f:Int) (m:Nat):Bool:=decide ((m:Int)<1) || decide (f≤last) || decide (r.limit-(m:Int)<f) || (decide (0≤r.fin)&&decide (r.fin-(m:Int)<f))
def zce (r:Pl.Rv):Int→List Pl.Pc→Bool
 | _,[]=>true
 | last,p::q => !(badL r last p.1 p.2.length)&&zce r (Pl.pend p) q
theorem badL_iff {r:Pl.Rv} {last f:Int} {m:Nat}:badL r last f m=false↔1≤m∧last<f∧f+(m:Int)≤r.limit∧(0≤r.fin→f+(m:Int)≤r.fin):=by
 unfold badL
 simp only [Bool.or_eq_false_iff,Bool.and_eq_false_iff,decide_eq_false_iff_not]
 omega
theorem zep {r:Pl.Rv}:∀ {l:List Pl.Pc} {last:Int},zce r last l=true↔Pl.latB last l∧(∀ p∈l,Pl.pend p≤r.limit)∧(0≤r.fin→∀ p∈l,Pl.pend p≤r.fin)
 | [],last=>by simp [zce,Pl.latB]
 | p::q,last=>by
  have ep:Pl.pend p=p.1+(p.2.length:Int):=rfl
  have hl:Pl.latB last (p::q)↔(last<p.1∧0<p.2.length∧Pl.latB (Pl.pend p) q):=Iff.rfl
  unfold zce
  simp only [Bool.and_eq_true,Bool.not_eq_true',badL_iff,zep (l:=q),hl,List.forall_mem_cons]
  constructor
  · rintro ⟨⟨h1,h2,h3,h4⟩,h5,h6,h7⟩
    exact ⟨⟨h2,by omega,h5⟩,⟨by omega,h6⟩,fun hf=>⟨by have:=h4 hf;omega,h7 hf⟩⟩
  · rintro ⟨⟨h1,h2,h3⟩,⟨h4,h5⟩,h6⟩
    exact ⟨⟨by omega,h1,by omega,fun hf=>by have:=(h6 hf).1;omega⟩,h3,h5,fun hf=>(h6 hf).2⟩
def fsGo (sp:List Tm):List Tm→List Tm→Bool
 | _,[]=>true
 | seen,x::q => !(!(decide (x∈sp)) || decide (x∈seen))&&fsGo sp (seen++[x]) q
theorem fsGo_iff {sp:List Tm}:∀ {l seen:List Tm},fsGo sp seen l=true↔(∀ x∈l,x∈sp)∧l.Nodup∧∀ x∈l,x ∉ seen
 | [],seen=>by simp [fsGo]
 | x::q,seen=>by
  unfold fsGo
  simp only [Bool.and_eq_true,Bool.not_eq_true',Bool.or_eq_false_iff,Bool.not_eq_false',decide_eq_true_eq,decide_eq_false_iff_not,fsGo_iff (l:=q),List.forall_mem_cons,List.nodup_cons]
  constructor
  · rintro ⟨⟨h1,h2⟩,h3,h4,h5⟩
    exact ⟨⟨h1,h3⟩,⟨fun hx=>h5 x hx (by simp),h4⟩,h2,fun y hy hs=>h5 y hy (List.mem_append.2 (.inl hs))⟩
  · rintro ⟨⟨h1,h3⟩,⟨h6,h4⟩,h2,h5⟩
    refine ⟨⟨h1,h2⟩,h3,h4,fun y hy hs=>?_⟩
    rcases List.mem_append.1 hs with h|h
    · exact h5 y hy h
    · have:y=x:=by simpa using h
      exact h6 (this▸hy)
def zds (r:Pl.Rv):Bool:=lowBb r && !(bad3 r)&&zce r r.s.n r.s.l&&fsGo (Pl.spansL r.s.l) [] r.first&&(r.dn==(r.fin==r.s.n)) && !(r.dn&&decide (0<r.s.l.length))
theorem zem {r:Pl.Rv}:zds r=true↔r.Ok:=by
 unfold zds
 simp only [Bool.and_eq_true,Bool.not_eq_true',zda,zep,fsGo_iff,beq_iff_eq]
 constructor
 · rintro ⟨⟨⟨⟨⟨hlow,h3⟩,hl1,hl2,hl3⟩,hf1,hf2,_⟩,hdn⟩,hdl⟩
   obtain ⟨⟨a1,a2⟩,⟨a3,a4⟩,⟨a5,a6⟩,a7,a8⟩:=hlow
   have h3':=of_decide_eq_false h3
   have hdn':r.dn=decide (r.fin=r.s.n):=by rw [hdn,Bool.eq_iff_iff];simp
   exact { n0:=a1,nf:=a2,c1:=a3,cm:=a4,s0:=a5,s14:=a6,uc:=a7,un:=a8,f1:=(by omega),fn:=(fun hc=>by omega),ff:=(by unfold Pl.farI;omega),e0:=(by omega),er:=(by omega),lat:=hl1,lim:=hl2,lfin:=hl3,fst:=hf1,nod:=hf2,dn:=hdn',dl:=(fun hd=>by
    rw [hd] at hdl
    simp at hdl
    exact hdl)}
 · intro ho
   have h1:=ho.ff
   unfold Pl.farI at h1
   have h2:=ho.f1
   have h3:=ho.fn
   have h4:=ho.e0
   have h5:=ho.er
   refine ⟨⟨⟨⟨⟨⟨⟨ho.n0,ho.nf⟩,⟨ho.c1,ho.cm⟩,⟨ho.s0,ho.s14⟩,ho.uc,ho.un⟩,?_⟩,ho.lat,ho.lim,ho.lfin⟩,ho.fst,ho.nod,fun x _ hx=>by cases hx⟩,?_⟩,?_⟩
   · apply decide_eq_false
     rintro (h|⟨h,h'⟩|h|h|h)
     · omega
     · have:=h3 h;omega
     · omega
     · omega
     · omega
   · rw [ho.dn,Bool.eq_iff_iff];simp
   · cases hd:r.dn with
     | false=>rfl
     | true=>simp [ho.dl hd]
end Go.Proofs.Ytkigcdmlkmcdcaa
namespace Go.Proofs.Ytkigcdmlkmcdcaa
open Go.ChangeShapes Go.WideShapes Go.ChangeAt Go.RowKit
set_option linter.unusedVariables false
set_option linter.unusedSimpArgs false
theorem bad3_is (r:Pl.Rv):((((decide (r.fin < -1) || (decide (0≤r.fin)&&decide (r.fin<r.s.n))) || decide (562949953421312<r.fin)) || decide (r.edge<0)) || decide (r.reach<r.edge))=bad3 r:=by
 unfold bad3
 rw [Bool.eq_iff_iff]
 simp [or_assoc]
theorem badL_is (r:Pl.Rv) (last f:Int) (m:Nat):(((decide ((m:Int)<1) || decide (f≤last)) || decide (r.limit-(m:Int)<f)) || (decide (0≤r.fin)&&decide (r.fin-(m:Int)<f)))=badL r last f m:=rfl
theorem sl_hS (b o n c t:Nat) (h2:t≤c) (w:World):(Instr.slice 25 (.slice (some ⟨b,o,none⟩) n c) none (some (.int .i64 (t:Int))) none).run Try.prog w=.ok (.slice (some ⟨b,o,none⟩) t c) w:=by
 have hs:(sizeOf (Try.prog.elem 25)).run Try.prog w=.ok 2 w:=by kernel_rfl
 rw [run_slice_h w 25 (some ⟨b,o,none⟩) n c (by kernel_rfl) .i64 t (by omega) (by omega),hs]
 simp [sliced,Addr.add]
set_option maxRecDepth 100000 in
set_option maxHeartbeats 16000000 in
theorem refChk_high (r:Pl.Rv) (h:Hd) (w:World) (H:RvAt w r h) (hl:lowB r) (q:Int) (hq:(if zds r=true then (0:Int) else 230)=q):Calls Try.prog 18 #[.agg #[.int .i64 r.s.n,.slice h.ua r.s.u.length h.uc,.slice h.la h.es.length h.lc,.int .i64 r.cap,.int .i64 r.shift,.int .i64 r.edge,.int .u32 r.recent,.bool r.stamps,.bool r.sacks,.int .i64 r.fin,.bool r.dn,.slice h.fa r.first.length h.fc,.int .u32 r.irs,.int .u32 r.own,.bool r.stamp]] w fun e w'=>e=.returned (.int .i64 q)∧Below w.heap.size w w':=by
 obtain ⟨W0,hW0⟩:∃ W0,w.alloc (.cells #[.int .i64 r.s.n,.slice h.ua r.s.u.length h.uc,.slice h.la h.es.length h.lc,.int .i64 r.cap,.int .i64 r.shift,.int .i64 r.edge,.int .u32 r.recent,.bool r.stamps,.bool r.sacks,.int .i64 r.fin,.bool r.dn,.slice h.fa r.first.length h.fc,.int .u32 r.irs,.int .u32 r.own,.bool r.stamp] 27)=W0:=⟨_,rfl⟩
 have hX:Box W0 w.heap.size 27 (rvL r h):=by rw [← hW0];exact Box.new w 27 (rvL r h)
 have b0:Below w.heap.size w W0:=by rw [← hW0];exact zaa (Below.refl _ _) _
 have HL:Hid (lowB r):=hl
 have HQ:Hid ((if zds r=true then (0:Int) else 230)=q):=hq
 have HH:Hid (RvAt W0 r h∧Below w.heap.size w W0∧Box W0 w.heap.size 27 (rvL r h)):=⟨H.later b0,b0,hX⟩
 obtain ⟨⟨l1,l2⟩,⟨l3,l4⟩,⟨l5,l6⟩,l7,l8⟩:=hl
 obtain ⟨c0,c1,c2,c3,c4,c5,c6,c7,c8,c9,c10,c11,c12,c13,c14⟩:=Box.c15 hX
 obtain ⟨d,hd⟩:∃ d,bad3 r=d:=⟨_,rfl⟩
 have hd':=(bad3_is r).trans hd
 clear b0 hX hq H
 go_enter Try.func18,Try.ntmps18
 go_upto_region 3 with fail
 clear hW0 c0 c1 c2 c3 c4 c5 c6 c7 c8 c9 c10 c11 c12 c13 c14
 refine chk3_reg rfl r h w.heap.size rfl HL.out HH.out.2.2 rfl rfl rfl rfl rfl rfl rfl rfl rfl rfl hd' ?_
 intro T W1 hT hS1
 have HW1:Hid (Box W1 w.heap.size 27 (rvL r h)∧Below W0.heap.size W0 W1):=hS1
 have HD:Hid (bad3 r=d):=hd
 clear hS1 hd hd' l1 l2 l3 l4 l5 l6 l7 l8
 simp only [Act.put,qA,qZ,qS]
 rw [hT]
 clear hT
 as_aux_lemma =>
  cases d with
  | true =>
   have hq2:(230:Int)=q:=by rw [← HQ.out,if_neg (by unfold zds;rw [HD.out];simp)]
   subst hq2
   go_wp2_with fail
   go_ret
   exact ⟨rfl,Below.on HH.out.2.1 HW1.out.2⟩
  | false =>
   obtain ⟨c0,c1,c2,c3,c4,c5,c6,c7,c8,c9,c10,c11,c12,c13,c14⟩:=Box.c15 HW1.out.1
   go_wp2_with fail
   clear c0 c1 c2 c3 c4 c5 c6 c7 c8 c9 c10 c11 c12 c13 c14
   go_loopw [3,4] (fun v3 v4 wr=>∃ (last:Int) (i:Nat),v3=.int .i64 last∧v4=.int .i64 (i:Int)∧i≤h.es.length∧Hid (zce r r.s.n r.s.l=zce r last (r.s.l.drop i)∧Below W0.heap.size W0 wr))
    (fun _ vi _=>h.es.length-(intOf vi).toNat)
   case atStart=>exact ⟨r.s.n,0,rfl,rfl,Nat.zero_le _,rfl,HW1.out.2⟩
   case round =>
    clear HW1
    obtain ⟨last,i,rfl,rfl,hin,HR⟩:=hrel
    have hbx:=HH.out.2.2.later HR.out.2
    by_cases hi:i<h.es.length
    · have hi':(i:Int)<(h.es.length:Int):=by omega
      obtain ⟨x,hx⟩:∃ x,h.es[i]? = some x:=⟨_,List.getElem?_eq_getElem hi⟩
      obtain ⟨pb,po,hla,e1,e2⟩:=(HH.out.1.late.later HR.out.2).ents i x hx
      have hxo:=HH.out.1.late.ok x (List.mem_of_getElem? hx)
      have hm:=hxo.1.1.1
      have hxf:=hxo.2
      unfold I64 at hxf
      have hlim:=HL.out
      have hdr:r.s.l.drop i=x.pc::r.s.l.drop (i+1):=by
       have hg:r.s.l[i]? = some x.pc:=by rw [← HH.out.1.les,List.getElem?_map,hx];rfl
       obtain ⟨hlt,he⟩:=List.getElem?_eq_some_iff.1 hg
       rw [List.drop_eq_getElem_cons hlt,he]
      have hgo:zce r last (r.s.l.drop i)=(!(badL r last x.f x.bs.length)&&zce r (x.f+(x.bs.length:Int)) (r.s.l.drop (i+1))):=by rw [hdr];rfl
      obtain ⟨c0,c1,c2,c3,c4,c5,c6,c7,c8,c9,c10,c11,c12,c13,c14⟩:=Box.c15 hbx
      have c2':wr.cell? ⟨w.heap.size,2,none⟩=some (.slice (some ⟨pb,po,none⟩) h.es.length h.lc):=by rw [c2,hla]
      clear c2
      have hlm:0≤r.limit∧r.limit≤562949953421312:=by
       obtain ⟨⟨l1,l2⟩,⟨l3,l4⟩,⟨l5,l6⟩,l7,l8⟩:=hlim
       unfold Pl.Rv.limit Pl.minJ Pl.Rv.reach Pl.Rx.bot Pl.farI
       split<;>omega
      have hb3:=of_decide_eq_false HD.out
      have hfm:-1≤r.fin∧r.fin≤562949953421312:=by omega
      obtain ⟨m,hmm⟩:∃ m,x.bs.length=m:=⟨_,rfl⟩
      rw [hmm] at hm hgo e2
      have hw1:IntKind.i64.wrap (r.limit-(m:Int))=r.limit-(m:Int):=by rw [IntKind.wrap_i64];omega
      have hw2:IntKind.i64.wrap (r.fin-(m:Int))=r.fin-(m:Int):=by rw [IntKind.wrap_i64];omega
      obtain ⟨d2,hd2⟩:∃ d,badL r last x.f m=d:=⟨_,rfl⟩
      have hd2':=(badL_is r last x.f m).trans hd2
      have HE:Hid (wr.cell? ⟨pb,po+i*2,none⟩=some (.int .i64 x.f)∧wr.cell? ⟨w.heap.size,2,none⟩=some (.slice (some ⟨pb,po,none⟩) h.es.length h.lc)∧h.la=some ⟨pb,po,none⟩∧Box wr w.heap.size 27 (rvL r h)∧zce r last (r.s.l.drop i)=(!(badL r last x.f m)&&zce r (x.f+(m:Int)) (r.s.l.drop (i+1)))∧badL r last x.f m=d2):=⟨e1,c2',hla,hbx,hgo,hd2⟩
      have HI:Hid (i<h.es.length):=hi
      clear hx hxo hdr hgo hla hlim hb3 hmm hd2
      go_upto_region 10 with fail
      clear c0 c1 c3 c4 c5 c6 c7 c8 c9 c10 c11 c12 c13 c14 c2' e1 e2
      refine chk10_reg rfl r h w.heap.size pb po i m x.f last rfl rfl rfl rfl HL.out HE.out.2.2.2.1 HE.out.2.2.1 hi' HE.out.1 hw1 hw2 rfl rfl rfl rfl rfl rfl rfl rfl hd2' ?_
      intro T2 W2 hT2 hS2
      have HW2:Hid (Box W2 w.heap.size 27 (rvL r h)∧Below wr.heap.size wr W2∧W2.cell? ⟨pb,po+i*2,none⟩=some (.int .i64 x.f)):=hS2
      clear hS2 hd2' hw1 hw2 hbx
      simp only [Act.put,qA,qZ,qS]
      rw [hT2]
      clear hT2
      as_aux_lemma =>
       cases d2 with
       | true =>
        have hq2:(230:Int)=q:=by rw [← HQ.out,if_neg (by unfold zds;rw [HR.out.1,HE.out.2.2.2.2.1,HE.out.2.2.2.2.2];simp)]
        subst hq2
        go_wp2_with fail
        go_ret
        exact ⟨rfl,Below.on HH.out.2.1 (Below.on HR.out.2 HW2.out.2.1)⟩
       | false =>
        obtain ⟨k1,k2,k3,k4⟩:=badL_iff.1 HE.out.2.2.2.2.2
        have c2':W2.cell? ⟨w.heap.size,2,none⟩=some (.slice (some ⟨pb,po,none⟩) h.es.length h.lc):=(HW2.out.2.1.cell (p:=⟨w.heap.size,2,none⟩) (zac HE.out.2.1)).trans HE.out.2.1
        have e1:=HW2.out.2.2
        have HN:Hid (zce r r.s.n r.s.l=zce r (x.f+(m:Int)) (r.s.l.drop (i+1))∧Below W0.heap.size W0 W2):=⟨by rw [HR.out.1,HE.out.2.2.2.2.1,HE.out.2.2.2.2.2];rfl,Below.on HR.out.2 HW2.out.2.1⟩
        clear k4
        have hrc:=HH.out.1.late.reach
        have hi2:i<h.es.length:=HI.out
        go_wp2_with fail
        go_roundw
        case rel=>exact ⟨x.f+(m:Int),i+1,by go_num,by go_num,HI.out,HN⟩
        case measure=>have hi2:i<h.es.length:=HI.out;simp [intOf];omega
    · obtain rfl:i=h.es.length:=by omega
      have hlat:zce r r.s.n r.s.l=true:=by
       rw [HR.out.1,List.drop_eq_nil_of_le (by rw [HH.out.1.len];exact Nat.le_refl _)]
       rfl
      obtain ⟨g1,g2,_⟩:=zep.1 hlat
      have hlim:=HL.out
      have hlm:r.limit≤562949953421312:=by
       obtain ⟨⟨l1,l2⟩,⟨l3,l4⟩,⟨l5,l6⟩,l7,l8⟩:=hlim
       unfold Pl.Rv.limit Pl.minJ Pl.Rv.reach Pl.Rx.bot Pl.farI
       split<;>omega
      have hsp:spnsW h.es=Pl.spansL r.s.l:=by
       unfold spnsW Pl.spansL
       rw [← HH.out.1.les,List.map_map]
       apply List.map_congr_left
       intro x hx
       have e1:=g2 x.pc (by rw [← HH.out.1.les];exact List.mem_map_of_mem hx)
       have e2:Pl.pend x.pc=x.f+(x.bs.length:Int):=rfl
       have e3:=(HH.out.1.late.ok x hx).2
       unfold I64 at e3
       show (x.f,wrap64 (x.f+(x.bs.length:Int)))=(x.f,Pl.pend x.pc)
       rw [e2,zbg (by omega) (by omega)]
      have HLA:Hid (zce r r.s.n r.s.l=true):=hlat
      have cS:=zey h.la h.lc h.es wr (HH.out.1.late.later HR.out.2) h.es.length rfl
      rw [hsp] at cS
      obtain ⟨c0,c1,c2,c3,c4,c5,c6,c7,c8,c9,c10,c11,c12,c13,c14⟩:=Box.c15 hbx
      clear hlat g1 g2 hlim hlm hsp
      go_wp2_with fail
      refine cS.mono ?_
      rintro e w3 ⟨sa,sc,rfl,hrow,hB3⟩
      clear cS c0 c1 c2 c3 c4 c5 c6 c7 c8 c9 c10 c11 c12 c13 c14
      have HW3:Hid (za0 w3 sa (Pl.spansL r.s.l)∧Below W0.heap.size W0 w3∧(Pl.spansL r.s.l).length=h.es.length):=⟨hrow.tims,Below.on HR.out.2 hB3,hrow.len⟩
      clear hrow hB3 HR hbx
      as_aux_lemma =>
       go_wp2_with fail
       go_loopw [7] (fun v7 wr=>∃ (j:Nat),v7=.int .i64 (j:Int)∧j≤r.first.length∧Hid (fsGo (Pl.spansL r.s.l) [] r.first=fsGo (Pl.spansL r.s.l) (r.first.take j) (r.first.drop j)∧Below w3.heap.size w3 wr))
        (fun vj _=>r.first.length-(intOf vj).toNat)
       case atStart=>exact ⟨0,rfl,Nat.zero_le _,rfl,Below.refl _ _⟩
       case round =>
        obtain ⟨j,rfl,hjn,HR⟩:=hrel
        have hbx:=(HH.out.2.2.later HW3.out.2.1).later HR.out.2
        have hB0:Below W0.heap.size W0 wr:=Below.on HW3.out.2.1 HR.out.2
        have hfr:=HH.out.1.fst.reach
        by_cases hj:j<r.first.length
        · have hj':(j:Int)<(r.first.length:Int):=by omega
          obtain ⟨x,hx⟩:∃ x,r.first[j]? = some x:=⟨_,List.getElem?_eq_getElem hj⟩
          obtain ⟨fb,fo,hfa,e1,e2⟩:=(HH.out.1.fst.tims.later hB0).2 j hj
          rw [hx] at e1 e2
          simp only [Option.getD_some] at e1 e2
          have htk:(r.first.take j).length=j:=by rw [List.length_take];omega
          have hdr:r.first.drop j=x::r.first.drop (j+1):=by
           obtain ⟨hlt,he⟩:=List.getElem?_eq_some_iff.1 hx
           rw [List.drop_eq_getElem_cons hlt,he]
          have htn:r.first.take j++[x]=r.first.take (j+1):=by
           rw [List.take_add_one,hx];rfl
          have htf:za0 wr (some ⟨fb,fo,none⟩) (r.first.take j):=by
           have h0:=(HH.out.1.fst.tims.later hB0)
           rw [hfa] at h0
           refine ⟨by have:=h0.1;rw [htk];omega,fun k hk=>?_⟩
           rw [htk] at hk
           have:=h0.2 k (by omega)
           rw [List.getElem?_take_of_lt hk]
           exact this
          have hfc:r.first.length≤h.fc:=HH.out.1.fst.cap
          have hsl:=fun W=>sl_hS fb fo r.first.length h.fc j (by omega) W
          obtain ⟨d3,hd3⟩:∃ d,(!(decide (x∈Pl.spansL r.s.l)) || decide (x∈r.first.take j))=d:=⟨_,rfl⟩
          have hgo:fsGo (Pl.spansL r.s.l) (r.first.take j) (r.first.drop j)=(!d3&&fsGo (Pl.spansL r.s.l) (r.first.take (j+1)) (r.first.drop (j+1))):=by rw [hdr,← htn,← hd3];rfl
          have HE:Hid (fsGo (Pl.spansL r.s.l) [] r.first=(!d3&&fsGo (Pl.spansL r.s.l) (r.first.take (j+1)) (r.first.drop (j+1)))∧h.fa=some ⟨fb,fo,none⟩∧za0 wr (some ⟨fb,fo,none⟩) (r.first.take j)∧Box wr w.heap.size 27 (rvL r h)∧j≤h.fc∧Below W0.heap.size W0 wr∧j<r.first.length∧(r.first.take j).length=j):=⟨HR.out.1.trans hgo,hfa,htf,hbx,by omega,hB0,hj,htk⟩
          obtain ⟨c0,c1,c2,c3,c4,c5,c6,c7,c8,c9,c10,c11,c12,c13,c14⟩:=Box.c15 hbx
          have c11':wr.cell? ⟨w.heap.size,11,none⟩=some (.slice (some ⟨fb,fo,none⟩) r.first.length h.fc):=by rw [c11,hfa]
          clear c11 hgo hdr htn htf hfa hbx hx htk
          go_upto_region 17 with fail
          clear c0 c1 c2 c3 c4 c5 c6 c7 c8 c9 c10 c11' c12 c13 c14
          refine chk17_reg rfl r h w.heap.size fb fo j h.es.length sc sa x rfl rfl rfl (Pl.spansL r.s.l) HE.out.2.2.2.1 HE.out.2.1 hj' HE.out.2.2.2.2.1 e1 e2 (HW3.out.1.later HR.out.2) HE.out.2.2.1 HW3.out.2.2 HE.out.2.2.2.2.2.2.2 hsl rfl rfl rfl hd3 ?_
          intro T2 W2 hT2 hS2
          have HW2:Hid (Below wr.heap.size wr W2):=hS2.2.1
          clear hS2 hd3 hsl e1 e2
          simp only [Act.put,qA,qZ,qS]
          rw [hT2]
          clear hT2
          as_aux_lemma =>
           cases d3 with
           | true =>
            have hq2:(230:Int)=q:=by rw [← HQ.out,if_neg (by unfold zds;rw [HE.out.1];simp)]
            subst hq2
            go_wp2_with fail
            go_ret
            exact ⟨rfl,Below.on HH.out.2.1 (Below.on HE.out.2.2.2.2.2.1 HW2.out)⟩
           | false =>
            have HN:Hid (fsGo (Pl.spansL r.s.l) [] r.first=fsGo (Pl.spansL r.s.l) (r.first.take (j+1)) (r.first.drop (j+1))∧Below w3.heap.size w3 W2):=⟨by rw [HE.out.1];rfl,Below.on HR.out.2 HW2.out⟩
            have hj2:j<r.first.length:=HE.out.2.2.2.2.2.2.1
            go_wp2_with fail
            go_roundw
            case rel=>exact ⟨j+1,by go_num,by omega,HN⟩
            case measure=>simp [intOf];omega
        · obtain rfl:j=r.first.length:=by omega
          have hfs:fsGo (Pl.spansL r.s.l) [] r.first=true:=by rw [HR.out.1,List.drop_length];rfl
          have hok:zds r=((r.dn==(r.fin==r.s.n)) && !(r.dn&&decide (0<r.s.l.length))):=by
           have h1:lowBb r=true:=zda.2 HL.out
           unfold zds
           rw [h1,HD.out,HLA.out,hfs]
           rfl
          have hln:=HH.out.1.len
          rw [hln] at hok
          have hq2:=HQ.out
          rw [hok] at hq2
          have HQ2:Hid ((if ((r.dn==(r.fin==r.s.n)) && !(r.dn&&decide (0<h.es.length)))=true then (0:Int) else 230)=q):=hq2
          have HF:Hid (Below w.heap.size w wr):=Below.on HH.out.2.1 hB0
          obtain ⟨db,hdb⟩:∃ b,r.dn=b:=⟨_,rfl⟩
          obtain ⟨fb,hfb⟩:∃ b,(r.fin==r.s.n)=b:=⟨_,rfl⟩
          obtain ⟨lb,hlb⟩:∃ b,decide (0<h.es.length)=b:=⟨_,rfl⟩
          have hlb':decide ((0:Int)<(h.es.length:Int))=lb:=by rw [← hlb];simp
          rw [hdb,hfb,hlb] at HQ2
          obtain ⟨c0,c1,c2,c3,c4,c5,c6,c7,c8,c9,c10,c11,c12,c13,c14⟩:=Box.c15 hbx
          rw [hdb] at c10
          have HLB:Hid (decide ((0:Int)<(h.es.length:Int))=lb):=hlb'
          clear hfs hok hln hq2 hdb hlb HR HLA hbx HW3 HQ
          as_aux_lemma =>
           cases db<;>cases fb<;>cases lb
           all_goals go_wp2_with fail
           all_goals go_ret
           all_goals first
            | exact ⟨za9 (by rw [← HQ2.out];rfl),HF.out⟩
            | (exfalso;have h9:=of_decide_eq_false HLB.out;omega)
            | (exfalso;have h9:=of_decide_eq_true HLB.out;omega)
theorem zgc (r:Pl.Rv) (h:Hd) (w:World) (H:RvAt w r h) (q:Int) (hq:(if zds r=true then (0:Int) else 230)=q):Calls Try.prog 18 #[.agg #[.int .i64 r.s.n,.slice h.ua r.s.u.length h.uc,.slice h.la h.es.length h.lc,.int .i64 r.cap,.int .i64 r.shift,.int .i64 r.edge,.int .u32 r.recent,.bool r.stamps,.bool r.sacks,.int .i64 r.fin,.bool r.dn,.slice h.fa r.first.length h.fc,.int .u32 r.irs,.int .u32 r.own,.bool r.stamp]] w fun e w'=>e=.returned (.int .i64 q)∧Below w.heap.size w w':=by
 by_cases hl:lowB r
 · exact refChk_high r h w H hl q hq
 · have:q=230:=by rw [← hq,if_neg (fun ho=>hl (by have:=(zem.1 ho);exact ⟨⟨this.n0,this.nf⟩,⟨this.c1,this.cm⟩,⟨this.s0,this.s14⟩,this.uc,this.un⟩))]
   subst this
   exact refChk_low r h w hl
theorem zeb (r:Pl.Rv) (h:Hd) (w:World) (H:RvAt w r h) (hok:r.Ok):Calls Try.prog 18 #[.agg #[.int .i64 r.s.n,.slice h.ua r.s.u.length h.uc,.slice h.la h.es.length h.lc,.int .i64 r.cap,.int .i64 r.shift,.int .i64 r.edge,.int .u32 r.recent,.bool r.stamps,.bool r.sacks,.int .i64 r.fin,.bool r.dn,.slice h.fa r.first.length h.fc,.int .u32 r.irs,.int .u32 r.own,.bool r.stamp]] w fun e w'=>e=.returned (.int .i64 0)∧Below w.heap.size w w':=zgc r h w H 0 (if_pos (zem.2 hok))
theorem refChk_no (r:Pl.Rv) (h:Hd) (w:World) (H:RvAt w r h) (hno:¬r.Ok):Calls Try.prog 18 #[.agg #[.int .i64 r.s.n,.slice h.ua r.s.u.length h.uc,.slice h.la h.es.length h.lc,.int .i64 r.cap,.int .i64 r.shift,.int .i64 r.edge,.int .u32 r.recent,.bool r.stamps,.bool r.sacks,.int .i64 r.fin,.bool r.dn,.slice h.fa r.first.length h.fc,.int .u32 r.irs,.int .u32 r.own,.bool r.stamp]] w fun e w'=>e=.returned (.int .i64 230)∧Below w.heap.size w w':=zgc r h w H 230 (if_neg (fun ho=>hno (zem.1 ho)))
end Go.Proofs.Ytkigcdmlkmcdcaa
namespace Go.Proofs.Ytkigcdmlkmcdcaa
open Go.ChangeShapes Go.WideShapes Go.ChangeAt Go.RowKit
set_option linter.unusedVariables false
set_option linter.unusedSimpArgs false
theorem ok_lowB {r:Pl.Rv} (ho:r.Ok):lowB r:=⟨⟨ho.n0,ho.nf⟩,⟨ho.c1,ho.cm⟩,⟨ho.s0,ho.s14⟩,ho.uc,ho.un⟩
end Go.Proofs.Ytkigcdmlkmcdcaa
namespace Go.Proofs.Ytkigcdmlkmcdcaa
open Go.ChangeShapes Go.WideShapes Go.ChangeAt Go.RowKit
set_option linter.unusedVariables false
set_option linter.unusedSimpArgs false
theorem zfb {w U:World} (h:Chg (lies none) w U):Below w.heap.size w U :=
 ⟨h.flat.os,h.flat.tape,h.flat.output,h.flat.size,fun k hk=>h.same k hk (fun ⟨_,_,e⟩=>by cases e)⟩
theorem first_bd {r:Pl.Rv} (ho:r.Ok) {x:Tm} (hx:x∈r.first):(0≤x.1∧x.1≤562949953421312)∧0≤x.2∧x.2≤562949953421312:=by
 have h1:=ho.fst x hx
 unfold Pl.spansL at h1
 obtain ⟨p,hp,rfl⟩:=List.mem_map.1 h1
 have h2:=zbd ho.lat p hp
 have h3:=zfo ho p hp
 have h4:=ho.n0
 show (0≤p.1∧p.1≤_)∧0≤Pl.pend p∧Pl.pend p≤_
 omega
theorem ak_is (r:Pl.Rv):Pl.adI r.irs (if r.dn=true then r.s.n+1 else r.s.n)=if r.dn=true then Pl.adI (Pl.adI r.irs r.s.n) 1 else Pl.adI r.irs r.s.n:=by
 split
 · exact ad_one _ _
 · rfl
set_option maxHeartbeats 4000000 in
theorem refTell_nil (r:Pl.Rv) (h:Hd) (w:World) (H:RvAt w r h) (hok:r.Ok) :
 Calls Try.prog 40 #[.agg #[.int .i64 r.s.n,.slice h.ua r.s.u.length h.uc,.slice h.la h.es.length h.lc,.int .i64 r.cap,.int .i64 r.shift,.int .i64 r.edge,.int .u32 r.recent,.bool r.stamps,.bool r.sacks,.int .i64 r.fin,.bool r.dn,.slice h.fa r.first.length h.fc,.int .u32 r.irs,.int .u32 r.own,.bool r.stamp],.slice none 0 0] w fun e w'=>∃ (k:Hd) (ks:Hs),e=.returned (.tuple #[.agg #[.int .i64 (Pl.tellR r).s.n,.slice k.ua (Pl.tellR r).s.u.length k.uc,.slice k.la k.es.length k.lc,.int .i64 (Pl.tellR r).cap,.int .i64 (Pl.tellR r).shift,.int .i64 (Pl.tellR r).edge,.int .u32 (Pl.tellR r).recent,.bool (Pl.tellR r).stamps,.bool (Pl.tellR r).sacks,.int .i64 (Pl.tellR r).fin,.bool (Pl.tellR r).dn,.slice k.fa (Pl.tellR r).first.length k.fc,.int .u32 (Pl.tellR r).irs,.int .u32 (Pl.tellR r).own,.bool (Pl.tellR r).stamp],.agg #[.int .i64 (tellS r r.first).sp,.int .i64 (tellS r r.first).dp,.int .u32 (tellS r r.first).sq,.int .u32 (tellS r r.first).ak,.int .i64 (tellS r r.first).fl,.int .i64 (tellS r r.first).wn,.int .i64 (tellS r r.first).ur,.int .i64 (tellS r r.first).ms,.int .i64 (tellS r r.first).sc,.bool (tellS r r.first).so,.bool (tellS r r.first).st,.int .u32 (tellS r r.first).va,.int .u32 (tellS r r.first).ec,.slice ks.ka (tellS r r.first).sk.length ks.kc,.slice ks.da (tellS r r.first).da.length ks.dc]])∧RvOwn w' w.heap.size (Pl.tellR r) k∧SgOwn w' w.heap.size (tellS r r.first) ks∧Below w.heap.size w w':=by
 obtain ⟨ua,uc,la,lc,es,fa,fc⟩:=h
 have hwb:=Pl.window_bd hok.uc
 have hcm:=hok.cm
 have he:=hok.er
 have hr:=Pl.Ok.reach hok
 have hnf:=hok.nf
 have hn0:=hok.n0
 have hun:=hok.un
 unfold Pl.Rv.reach Pl.Rx.bot at he
 unfold Pl.farI at hnf
 have hnn:(if r.dn=true then r.s.n+1 else r.s.n)≤562949953421313∧0≤(if r.dn=true then r.s.n+1 else r.s.n):=by split<;>omega
 refine (zga r.s.n r.cap r.shift r.edge r.recent r.fin r.irs r.own r.stamps r.sacks r.dn r.stamp ua r.s.u.length uc la es.length lc fa r.first.length fc r none 0 0 [] w.heap.size w r.window _ _ (if r.dn=true then Pl.adI (Pl.adI r.irs r.s.n) 1 else Pl.adI r.irs r.s.n) _ _ r.first _ _
  (fun W=>zdr r ⟨ua,uc,la,lc,es,fa,fc⟩ W (ok_lowB hok)) (fun W=>?_) (fun x hx W=>?_) (fun U hU=>?_) (fun U hU=>(H.later (zfb hU)).fst) rfl (RowB.nil _ _) (Nat.le_refl _) (by omega) rfl ⟨hwb.1,by omega⟩ ⟨hok.n0,hnf⟩ ⟨hok.s0,hok.s14⟩ ⟨hok.e0,by omega⟩ rfl rfl rfl rfl rfl).mono ?_
 · have:=zbj r.irs (if r.dn=true then r.s.n+1 else r.s.n) H.irs ⟨by omega,by omega⟩ W
   rwa [ak_is] at this
 · have hb:=first_bd hok hx
   exact ⟨zbj r.irs x.1 H.irs ⟨by omega,by omega⟩ W,zbj r.irs x.2 H.irs ⟨by omega,by omega⟩ W⟩
 · refine (zct r ⟨ua,uc,la,lc,es,fa,fc⟩ U (H.later (zfb hU))).mono ?_
   rintro e w' ⟨⟨ua1,uc1,la1,lc1,es1,fa1,fc1⟩,rfl,hO,hB⟩
   refine ⟨ua1,uc1,la1,lc1,es1,fa1,fc1,?_,hO,hB⟩
   have h1:=hO.les
   have h2:=H.les
   have h3:es1.length=es.length:=by
    have:=congrArg List.length (h1.trans h2.symm)
    simpa using this
   simp only [h3]
 · rintro e w' ⟨ua1,uc1,la1,lc1,es1,fa1,fc1,ka,kc,rfl,hO,hR,hl,hc⟩
   have hsk:refSk r.irs r.stamps r.sacks [] r.first=(tellS r r.first).sk:=refSk_nil _ _ _ _
   rw [hsk] at hR
   refine ⟨⟨ua1,uc1,la1,lc1,es1,fa1,fc1⟩,⟨ka,kc,none,0⟩,?_,hO.tell,⟨hR,?_,rfl,rfl,rfl⟩,zfb hc⟩
   · have h1:=hO.les
     have h2:=H.les
     have h3:es1.length=es.length:=by
      have:=congrArg List.length (h1.trans h2.symm)
      simpa using this
     rw [hsk]
     simp only [h3]
     rfl
   · show (sackL r.irs r.stamps r.sacks r.first).length≤4
     unfold sackL
     split
     · rw [List.length_map,List.length_take]
       split<;>omega
     · simp
end Go.Proofs.Ytkigcdmlkmcdcaa
