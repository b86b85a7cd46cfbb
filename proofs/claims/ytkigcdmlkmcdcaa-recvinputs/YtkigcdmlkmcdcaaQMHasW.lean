/- The document's has. -/
import Derived.Test.YtkigcdmlkmcdcaaQZ
import Derived.Test.YtkigcdmlkmcdcaaQMSpansW
namespace Go.Proofs.Ytkigcdmlkmcdcaa
open Go.ChangeShapes Go.WideShapes Go.ChangeAt Go.RowKit
set_option linter.unusedVariables false
set_option linter.unusedSimpArgs false
set_option maxRecDepth 100000 in
set_option maxHeartbeats 4000000 in
theorem zgb (A:Option Addr) (c:Nat) (es:List En) (w:World) (hP:PcsAt w A c es) (n:Nat) (hn:es.length=n) (x:Int) (hx:-1125899906842624≤x∧x≤2251799813685248) (hes:∀ e∈es,0≤e.f∧e.f+(e.bs.length:Int)≤1125899906842624) (v:Int) (hv:(Pl.hasL (es.map En.pc) x).getD (-1)=v) :
 Calls Try.prog 68 #[.slice A n c,.int .i64 x] w fun e w'=>e=.returned (.int .i64 v)∧Below w.heap.size w w':=by
 have HS:Hid (PcsAt w A c es∧es.length=n∧(∀ e∈es,0≤e.f∧e.f+(e.bs.length:Int)≤1125899906842624)∧(Pl.hasL (es.map En.pc) x).getD (-1)=v):=⟨hP,hn,hes,hv⟩
 have hb1:n*32≤140737488351232:=by have:=hP.reach;omega
 clear hP hn hes hv
 go_enter Try.func68,Try.ntmps68
 go_wp2_with fail
 go_loopw [5] (fun vi wr=>∃ j:Nat,vi=.int .i64 (j:Int)∧j≤n∧Hid (Below w.heap.size w wr∧Pl.hasL (es.map En.pc) x=Pl.hasL ((es.drop j).map En.pc) x)) (fun vi _=>n-(intOf vi).toNat)
 case atStart=>exact ⟨0,rfl,Nat.zero_le _,Below.refl _ _,rfl⟩
 case round =>
  obtain ⟨j,rfl,hj,HR⟩:=hrel
  by_cases hlt:j<n
  · have hlt':(j:Int)<(n:Int):=by omega
    obtain ⟨e,he⟩:∃ e,es[j]? = some e:=⟨_,List.getElem?_eq_getElem (by rw [HS.out.2.1];exact hlt)⟩
    have hdr:es.drop j=e::es.drop (j+1):=by
     have hl:j<es.length:=by rw [HS.out.2.1];exact hlt
     rw [List.drop_eq_getElem_cons hl]
     rw [List.getElem?_eq_getElem hl] at he
     injection he with he
     rw [he]
    have hAr:=HS.out.1.later HR.out.1
    obtain ⟨b,o,ka,e1,e2⟩:=hAr.ents j e he
    have hmem:=List.mem_of_getElem? he
    obtain ⟨hf0,hf1⟩:=HS.out.2.2.1 e hmem
    have oke:=hAr.ok e hmem
    subst ka
    have hw1:IntKind.i64.wrap (e.f+(e.bs.length:Int))=e.f+(e.bs.length:Int):=by simp [IntKind.wrap,IntKind.signed,IntKind.bits];omega
    have hhas:Pl.hasL ((es.drop j).map En.pc) x=if e.f≤x∧x<e.f+(e.bs.length:Int) then e.bs[(x-e.f).toNat]? else Pl.hasL ((es.drop (j+1)).map En.pc) x:=by rw [hdr];rfl
    clear hdr he hmem hAr
    by_cases q1:e.f≤x
    · have g1:decide (e.f≤x)=true:=by simp [q1]
      by_cases q2:x<e.f+(e.bs.length:Int)
      · have g2:decide (x<e.f+(e.bs.length:Int))=true:=by simp [q2]
        obtain ⟨k,hk⟩:∃ k:Nat,x-e.f=(k:Int):=⟨(x-e.f).toNat,by omega⟩
        have hk2:IntKind.i64.wrap (x-e.f)=(k:Int):=by rw [hk];simp [IntKind.wrap,IntKind.signed,IntKind.bits];omega
        have hkl:k<e.bs.length:=by omega
        have hkl':(k:Int)<(e.bs.length:Int):=by omega
        obtain ⟨b2,o2,ea,e3⟩:=oke.1.1.2.2 k hkl
        obtain ⟨by0,hby⟩:∃ y,e.bs[k]?.getD 0=y:=⟨_,rfl⟩
        rw [hby] at e3
        rw [ea] at e2
        have hbr:0≤by0∧by0≤255:=by
         have hm:e.bs[k]?.getD 0∈e.bs:=by rw [List.getElem?_eq_getElem hkl];exact List.getElem_mem hkl
         rw [hby] at hm
         exact oke.1.1.2.1 _ hm
        have hw8:IntKind.i64.wrap by0=by0:=by simp [IntKind.wrap,IntKind.signed,IntKind.bits];omega
        have HV:Hid (by0=v):=by
         have e4:=HS.out.2.2.2
         rw [HR.out.2,hhas,if_pos ⟨q1,q2⟩,hk,Int.toNat_natCast,List.getElem?_eq_getElem hkl] at e4
         rw [List.getElem?_eq_getElem hkl] at hby
         simp only [Option.getD_some] at e4 hby
         exact hby.symm.trans e4
        obtain ⟨S,hS⟩:∃ S:World→Prop,S=fun W=>W.cell? ⟨b,o+j*2,none⟩=some (.int .i64 e.f)∧W.cell? ⟨b,o+j*2+1,none⟩=some (.slice (some ⟨b2,o2,none⟩) e.bs.length e.c)∧W.cell? ⟨b2,o2+k,none⟩=some (.int .u8 by0):=⟨_,rfl⟩
        have HSK:Hid (∀ W,Below wr.heap.size wr W→S W):=fun W hW=>by
         rw [hS]
         exact ⟨(hW.cell (p:=⟨_,_,none⟩) (zac e1)).trans e1,(hW.cell (p:=⟨_,_,none⟩) (zac e2)).trans e2,(hW.cell (p:=⟨_,_,none⟩) (zac e3)).trans e3⟩
        clear e1 e2 e3 hhas oke hk hby ea q1 q2
        go_wp2_with fail
        as_aux_lemma =>
         obtain ⟨y0,y1,y2,y3,y4,y5,y6,y7,y8,y9,y10,y11,y12,y13,y14,y15,y16,y17,y18,y19,y20,y21,y22⟩:(∀ {ps} (ev:EV),ev (.tmp 1)=.int .i64 x→Yl Try.prog S ev ⟨some 12,.move (.tmp 1),3,ps,#[],none⟩ ((.int .i64 x)))∧(∀ {ps} (ev:EV),ev (.tmp 0)=.slice (some ⟨b,o,none⟩) n c→Yl Try.prog S ev ⟨some 13,.move (.tmp 0),23,ps,#[],none⟩ ((.slice (some ⟨b,o,none⟩) n c)))∧(∀ {ps} (ev:EV),ev (.tmp 5)=.int .i64 (j:Int)→Yl Try.prog S ev ⟨some 14,.move (.tmp 5),3,ps,#[],none⟩ ((.int .i64 (j:Int))))∧(∀ {ps} (ev:EV),ev (.tmp 13)=.slice (some ⟨b,o,none⟩) n c→ev (.tmp 14)=.int .i64 (j:Int)→Yl Try.prog S ev ⟨some 15,.indexAddr 23 (.tmp 13) (.tmp 14),0,ps,#[⟨1,.data⟩,⟨2,.data⟩],none⟩ ((.pointer (some ⟨b,o+j*2,none⟩))))∧(∀ {ps} (ev:EV),ev (.tmp 15)=.pointer (some ⟨b,o+j*2,none⟩)→Yl Try.prog S ev ⟨some 16,.fieldAddr 74 (.tmp 15) 0,0,ps,#[⟨3,.data⟩],none⟩ ((.pointer (some ⟨b,o+j*2,none⟩))))∧(∀ {ps} (ev:EV),ev (.tmp 16)=.pointer (some ⟨b,o+j*2,none⟩)→Yl Try.prog S ev ⟨some 17,.load 3 (.tmp 16),3,ps,#[⟨4,.data⟩],none⟩ ((.int .i64 e.f)))∧(∀ {ps} (ev:EV),ev (.tmp 12)=.int .i64 x→ev (.tmp 17)=.int .i64 e.f→Yl Try.prog S ev ⟨some 18,.binOp .geq 3 (.tmp 12) (.tmp 17) 3,4,ps,#[⟨0,.data⟩,⟨5,.data⟩],none⟩ ((.bool true)))∧(∀ {ps} (ev:EV),ev (.tmp 18)=.bool true→Yl Try.prog S ev ⟨some 19,.move (.tmp 18),4,ps,#[⟨6,.data⟩],none⟩ ((.bool true)))∧(∀ {ps} (ev:EV),ev (.tmp 1)=.int .i64 x→Yl Try.prog S ev ⟨some 20,.move (.tmp 1),3,ps,#[⟨7,.guard⟩],some (7,true)⟩ ((.int .i64 x)))∧(∀ {ps} (ev:EV),ev (.tmp 0)=.slice (some ⟨b,o,none⟩) n c→Yl Try.prog S ev ⟨some 21,.move (.tmp 0),23,ps,#[⟨7,.guard⟩],some (7,true)⟩ ((.slice (some ⟨b,o,none⟩) n c)))∧(∀ {ps} (ev:EV),ev (.tmp 5)=.int .i64 (j:Int)→Yl Try.prog S ev ⟨some 22,.move (.tmp 5),3,ps,#[⟨7,.guard⟩],some (7,true)⟩ ((.int .i64 (j:Int))))∧(∀ {ps} (ev:EV),ev (.tmp 21)=.slice (some ⟨b,o,none⟩) n c→ev (.tmp 22)=.int .i64 (j:Int)→Yl Try.prog S ev ⟨some 23,.indexAddr 23 (.tmp 21) (.tmp 22),0,ps,#[⟨9,.data⟩,⟨10,.data⟩,⟨7,.guard⟩],some (7,true)⟩ ((.pointer (some ⟨b,o+j*2,none⟩))))∧(∀ {ps} (ev:EV),ev (.tmp 23)=.pointer (some ⟨b,o+j*2,none⟩)→Yl Try.prog S ev ⟨some 24,.fieldAddr 74 (.tmp 23) 0,0,ps,#[⟨11,.data⟩,⟨7,.guard⟩],some (7,true)⟩ ((.pointer (some ⟨b,o+j*2,none⟩))))∧(∀ {ps} (ev:EV),ev (.tmp 24)=.pointer (some ⟨b,o+j*2,none⟩)→Yl Try.prog S ev ⟨some 25,.load 3 (.tmp 24),3,ps,#[⟨12,.data⟩,⟨7,.guard⟩],some (7,true)⟩ ((.int .i64 e.f)))∧(∀ {ps} (ev:EV),ev (.tmp 0)=.slice (some ⟨b,o,none⟩) n c→Yl Try.prog S ev ⟨some 26,.move (.tmp 0),23,ps,#[⟨7,.guard⟩],some (7,true)⟩ ((.slice (some ⟨b,o,none⟩) n c)))∧(∀ {ps} (ev:EV),ev (.tmp 5)=.int .i64 (j:Int)→Yl Try.prog S ev ⟨some 27,.move (.tmp 5),3,ps,#[⟨7,.guard⟩],some (7,true)⟩ ((.int .i64 (j:Int))))∧(∀ {ps} (ev:EV),ev (.tmp 26)=.slice (some ⟨b,o,none⟩) n c→ev (.tmp 27)=.int .i64 (j:Int)→Yl Try.prog S ev ⟨some 28,.indexAddr 23 (.tmp 26) (.tmp 27),0,ps,#[⟨14,.data⟩,⟨15,.data⟩,⟨7,.guard⟩],some (7,true)⟩ ((.pointer (some ⟨b,o+j*2,none⟩))))∧(∀ {ps} (ev:EV),ev (.tmp 28)=.pointer (some ⟨b,o+j*2,none⟩)→Yl Try.prog S ev ⟨some 29,.fieldAddr 74 (.tmp 28) 1,0,ps,#[⟨16,.data⟩,⟨7,.guard⟩],some (7,true)⟩ ((.pointer (some ⟨b,o+j*2+1,none⟩))))∧(∀ {ps} (ev:EV),ev (.tmp 29)=.pointer (some ⟨b,o+j*2+1,none⟩)→Yl Try.prog S ev ⟨some 30,.load 22 (.tmp 29),22,ps,#[⟨17,.data⟩,⟨7,.guard⟩],some (7,true)⟩ ((.slice (some ⟨b2,o2,none⟩) e.bs.length e.c)))∧(∀ {ps} (ev:EV),ev (.tmp 30)=.slice (some ⟨b2,o2,none⟩) e.bs.length e.c→Yl Try.prog S ev ⟨some 31,.call { callee:=.builtin .len,args:=#[.tmp 30],argTypes:=#[22]},3,ps,#[⟨18,.data⟩,⟨7,.guard⟩],some (7,true)⟩ ((.int .i64 (e.bs.length:Int))))∧(∀ {ps} (ev:EV),ev (.tmp 25)=.int .i64 e.f→ev (.tmp 31)=.int .i64 (e.bs.length:Int)→Yl Try.prog S ev ⟨some 32,.binOp .add 3 (.tmp 25) (.tmp 31) 3,3,ps,#[⟨13,.data⟩,⟨19,.data⟩,⟨7,.guard⟩],some (7,true)⟩ ((.int .i64 (e.f+(e.bs.length:Int)))))∧(∀ {ps} (ev:EV),ev (.tmp 20)=.int .i64 x→ev (.tmp 32)=.int .i64 (e.f+(e.bs.length:Int))→Yl Try.prog S ev ⟨some 33,.binOp .lss 3 (.tmp 20) (.tmp 32) 3,4,ps,#[⟨8,.data⟩,⟨20,.data⟩,⟨7,.guard⟩],some (7,true)⟩ ((.bool true)))∧(∀ {ps} (ev:EV),ev (.tmp 19)=.bool true→ev (.tmp 33)=.bool true→ev (.const (Go.Value.bool false))=(Go.Value.bool false)→Yl Try.prog S ev ⟨some 34,.pick (.tmp 19) (.tmp 33) (.const (.bool false)),4,ps,#[⟨7,.data⟩,⟨21,.data⟩],none⟩ ((.bool true))):=by
          refine ⟨?_,?_,?_,?_,?_,?_,?_,?_,?_,?_,?_,?_,?_,?_,?_,?_,?_,?_,?_,?_,?_,?_,?_⟩<;>(intros;intro W hSw;rw [hS] at hSw;(try dsimp only at hSw);go_simp<;>with_reducible rfl)
         refine zb4 (fun W'=>S W'∧Below wr.heap.size wr W') (by kernel_rfl) (by kernel_rfl) ?hC ?_
         case hC=>exact ⟨HSK.out _ (Below.drew (Below.refl _ _)),Below.drew (Below.refl _ _)⟩
         refine zab (by kernel_rfl) (fun W hW=>y0 _ rfl W hW.1) ?_
         try simp only [Act.put,qA,qZ,qS]
         refine zab (by kernel_rfl) (fun W hW=>y1 _ rfl W hW.1) ?_
         try simp only [Act.put,qA,qZ,qS]
         refine zab (by kernel_rfl) (fun W hW=>y2 _ rfl W hW.1) ?_
         try simp only [Act.put,qA,qZ,qS]
         refine zab (by kernel_rfl) (fun W hW=>y3 _ rfl rfl W hW.1) ?_
         try simp only [Act.put,qA,qZ,qS]
         refine zab (by kernel_rfl) (fun W hW=>y4 _ rfl W hW.1) ?_
         try simp only [Act.put,qA,qZ,qS]
         refine zab (by kernel_rfl) (fun W hW=>y5 _ rfl W hW.1) ?_
         try simp only [Act.put,qA,qZ,qS]
         refine zab (by kernel_rfl) (fun W hW=>y6 _ rfl rfl W hW.1) ?_
         try simp only [Act.put,qA,qZ,qS]
         refine zab (by kernel_rfl) (fun W hW=>y7 _ rfl W hW.1) ?_
         try simp only [Act.put,qA,qZ,qS]
         refine zab (by kernel_rfl) (fun W hW=>y8 _ rfl W hW.1) ?_
         try simp only [Act.put,qA,qZ,qS]
         refine zab (by kernel_rfl) (fun W hW=>y9 _ rfl W hW.1) ?_
         try simp only [Act.put,qA,qZ,qS]
         refine zab (by kernel_rfl) (fun W hW=>y10 _ rfl W hW.1) ?_
         try simp only [Act.put,qA,qZ,qS]
         refine zab (by kernel_rfl) (fun W hW=>y11 _ rfl rfl W hW.1) ?_
         try simp only [Act.put,qA,qZ,qS]
         refine zab (by kernel_rfl) (fun W hW=>y12 _ rfl W hW.1) ?_
         try simp only [Act.put,qA,qZ,qS]
         refine zab (by kernel_rfl) (fun W hW=>y13 _ rfl W hW.1) ?_
         try simp only [Act.put,qA,qZ,qS]
         refine zab (by kernel_rfl) (fun W hW=>y14 _ rfl W hW.1) ?_
         try simp only [Act.put,qA,qZ,qS]
         refine zab (by kernel_rfl) (fun W hW=>y15 _ rfl W hW.1) ?_
         try simp only [Act.put,qA,qZ,qS]
         refine zab (by kernel_rfl) (fun W hW=>y16 _ rfl rfl W hW.1) ?_
         try simp only [Act.put,qA,qZ,qS]
         refine zab (by kernel_rfl) (fun W hW=>y17 _ rfl W hW.1) ?_
         try simp only [Act.put,qA,qZ,qS]
         refine zab (by kernel_rfl) (fun W hW=>y18 _ rfl W hW.1) ?_
         try simp only [Act.put,qA,qZ,qS]
         refine zab (by kernel_rfl) (fun W hW=>y19 _ rfl W hW.1) ?_
         try simp only [Act.put,qA,qZ,qS]
         refine zab (by kernel_rfl) (fun W hW=>y20 _ rfl rfl W hW.1) ?_
         try simp only [Act.put,qA,qZ,qS]
         refine zab (by kernel_rfl) (fun W hW=>y21 _ rfl rfl W hW.1) ?_
         try simp only [Act.put,qA,qZ,qS]
         refine zab (by kernel_rfl) (fun W hW=>y22 _ rfl rfl rfl W hW.1) ?_
         try simp only [Act.put,qA,qZ,qS]
         refine zb2 ?_
         intro W5 hC5
         have hB5:Below wr.heap.size wr W5:=hC5.2
         clear y0 y1 y2 y3 y4 y5 y6 y7 y8 y9 y10 y11 y12 y13 y14 y15 y16 y17 y18 y19 y20 y21 y22 hC5
         have hB:Hid (Below w.heap.size w W5):=HR.out.1.trans (hB5.mono HR.out.1.size)
         have HSK5:Hid (∀ W,Below W5.heap.size W5 W→S W):=fun W hW=>HSK.out _ (Below.on hB5 hW)
         clear hB5 HSK
         go_wp2_with fail
         have z0:∀ {ps:String} (ev:Operand→Value),ev (.tmp 0)=.slice (some ⟨b,o,none⟩) n c→∀ W,S W→(execOp ev ⟨some 35,.move (.tmp 0),23,ps,#[],none⟩).run Try.prog W=.ok (.value (.slice (some ⟨b,o,none⟩) n c)) W:=by
          intro ps ev h0 W hSw
          rw [hS] at hSw
          try dsimp only at hSw
          first|(go_simp;done)|(go_simp;with_reducible rfl)
         have z1:∀ {ps:String} (ev:Operand→Value),ev (.tmp 5)=.int .i64 (j:Int)→∀ W,S W→(execOp ev ⟨some 36,.move (.tmp 5),3,ps,#[],none⟩).run Try.prog W=.ok (.value (.int .i64 (j:Int))) W:=by
          intro ps ev h0 W hSw
          rw [hS] at hSw
          try dsimp only at hSw
          first|(go_simp;done)|(go_simp;with_reducible rfl)
         have z2:∀ {ps:String} (ev:Operand→Value),ev (.tmp 35)=.slice (some ⟨b,o,none⟩) n c→ev (.tmp 36)=.int .i64 (j:Int)→∀ W,S W→(execOp ev ⟨some 37,.indexAddr 23 (.tmp 35) (.tmp 36),0,ps,#[⟨0,.data⟩,⟨1,.data⟩],none⟩).run Try.prog W=.ok (.value (.pointer (some ⟨b,o+j*2,none⟩))) W:=by
          intro ps ev h0 h1 W hSw
          rw [hS] at hSw
          try dsimp only at hSw
          first|(go_simp;done)|(go_simp;with_reducible rfl)
         have z3:∀ {ps:String} (ev:Operand→Value),ev (.tmp 37)=.pointer (some ⟨b,o+j*2,none⟩)→∀ W,S W→(execOp ev ⟨some 38,.fieldAddr 74 (.tmp 37) 1,0,ps,#[⟨2,.data⟩],none⟩).run Try.prog W=.ok (.value (.pointer (some ⟨b,o+j*2+1,none⟩))) W:=by
          intro ps ev h0 W hSw
          rw [hS] at hSw
          try dsimp only at hSw
          first|(go_simp;done)|(go_simp;with_reducible rfl)
         have z4:∀ {ps:String} (ev:Operand→Value),ev (.tmp 38)=.pointer (some ⟨b,o+j*2+1,none⟩)→∀ W,S W→(execOp ev ⟨some 39,.load 22 (.tmp 38),22,ps,#[⟨3,.data⟩],none⟩).run Try.prog W=.ok (.value (.slice (some ⟨b2,o2,none⟩) e.bs.length e.c)) W:=by
          intro ps ev h0 W hSw
          rw [hS] at hSw
          try dsimp only at hSw
          first|(go_simp;done)|(go_simp;with_reducible rfl)
         have z5:∀ {ps:String} (ev:Operand→Value),ev (.tmp 1)=.int .i64 x→∀ W,S W→(execOp ev ⟨some 40,.move (.tmp 1),3,ps,#[],none⟩).run Try.prog W=.ok (.value (.int .i64 x)) W:=by
          intro ps ev h0 W hSw
          rw [hS] at hSw
          try dsimp only at hSw
          first|(go_simp;done)|(go_simp;with_reducible rfl)
         have z6:∀ {ps:String} (ev:Operand→Value),ev (.tmp 0)=.slice (some ⟨b,o,none⟩) n c→∀ W,S W→(execOp ev ⟨some 41,.move (.tmp 0),23,ps,#[],none⟩).run Try.prog W=.ok (.value (.slice (some ⟨b,o,none⟩) n c)) W:=by
          intro ps ev h0 W hSw
          rw [hS] at hSw
          try dsimp only at hSw
          first|(go_simp;done)|(go_simp;with_reducible rfl)
         have z7:∀ {ps:String} (ev:Operand→Value),ev (.tmp 5)=.int .i64 (j:Int)→∀ W,S W→(execOp ev ⟨some 42,.move (.tmp 5),3,ps,#[],none⟩).run Try.prog W=.ok (.value (.int .i64 (j:Int))) W:=by
          intro ps ev h0 W hSw
          rw [hS] at hSw
          try dsimp only at hSw
          first|(go_simp;done)|(go_simp;with_reducible rfl)
         have z8:∀ {ps:String} (ev:Operand→Value),ev (.tmp 41)=.slice (some ⟨b,o,none⟩) n c→ev (.tmp 42)=.int .i64 (j:Int)→∀ W,S W→(execOp ev ⟨some 43,.indexAddr 23 (.tmp 41) (.tmp 42),0,ps,#[⟨6,.data⟩,⟨7,.data⟩],none⟩).run Try.prog W=.ok (.value (.pointer (some ⟨b,o+j*2,none⟩))) W:=by
          intro ps ev h0 h1 W hSw
          rw [hS] at hSw
          try dsimp only at hSw
          first|(go_simp;done)|(go_simp;with_reducible rfl)
         have z9:∀ {ps:String} (ev:Operand→Value),ev (.tmp 43)=.pointer (some ⟨b,o+j*2,none⟩)→∀ W,S W→(execOp ev ⟨some 44,.fieldAddr 74 (.tmp 43) 0,0,ps,#[⟨8,.data⟩],none⟩).run Try.prog W=.ok (.value (.pointer (some ⟨b,o+j*2,none⟩))) W:=by
          intro ps ev h0 W hSw
          rw [hS] at hSw
          try dsimp only at hSw
          first|(go_simp;done)|(go_simp;with_reducible rfl)
         have z10:∀ {ps:String} (ev:Operand→Value),ev (.tmp 44)=.pointer (some ⟨b,o+j*2,none⟩)→∀ W,S W→(execOp ev ⟨some 45,.load 3 (.tmp 44),3,ps,#[⟨9,.data⟩],none⟩).run Try.prog W=.ok (.value (.int .i64 e.f)) W:=by
          intro ps ev h0 W hSw
          rw [hS] at hSw
          try dsimp only at hSw
          first|(go_simp;done)|(go_simp;with_reducible rfl)
         have z11:∀ {ps:String} (ev:Operand→Value),ev (.tmp 40)=.int .i64 x→ev (.tmp 45)=.int .i64 e.f→∀ W,S W→(execOp ev ⟨some 46,.binOp .sub 3 (.tmp 40) (.tmp 45) 3,3,ps,#[⟨5,.data⟩,⟨10,.data⟩],none⟩).run Try.prog W=.ok (.value (.int .i64 (k:Int))) W:=by
          intro ps ev h0 h1 W hSw
          rw [hS] at hSw
          try dsimp only at hSw
          first|(go_simp;done)|(go_simp;with_reducible rfl)
         have z12:∀ {ps:String} (ev:Operand→Value),ev (.tmp 39)=.slice (some ⟨b2,o2,none⟩) e.bs.length e.c→ev (.tmp 46)=.int .i64 (k:Int)→∀ W,S W→(execOp ev ⟨some 47,.indexAddr 22 (.tmp 39) (.tmp 46),0,ps,#[⟨4,.data⟩,⟨11,.data⟩],none⟩).run Try.prog W=.ok (.value (.pointer (some ⟨b2,o2+k,none⟩))) W:=by
          intro ps ev h0 h1 W hSw
          rw [hS] at hSw
          try dsimp only at hSw
          first|(go_simp;done)|(go_simp;with_reducible rfl)
         have z13:∀ {ps:String} (ev:Operand→Value),ev (.tmp 47)=.pointer (some ⟨b2,o2+k,none⟩)→∀ W,S W→(execOp ev ⟨some 48,.load 5 (.tmp 47),5,ps,#[⟨12,.data⟩],none⟩).run Try.prog W=.ok (.value (.int .u8 by0)) W:=by
          intro ps ev h0 W hSw
          rw [hS] at hSw
          try dsimp only at hSw
          first|(go_simp;done)|(go_simp;with_reducible rfl)
         have z14:∀ {ps:String} (ev:Operand→Value),ev (.tmp 48)=.int .u8 by0→∀ W,S W→(execOp ev ⟨some 49,.convert 5 3 (.tmp 48),3,ps,#[⟨13,.data⟩],none⟩).run Try.prog W=.ok (.value (.int .i64 by0)) W:=by
          intro ps ev h0 W hSw
          rw [hS] at hSw
          try dsimp only at hSw
          first|(go_simp;done)|(go_simp;with_reducible rfl)
         have z15:∀ {ps:String} (ev:Operand→Value),ev (.tmp 49)=.int .i64 by0→∀ W,S W→(execOp ev ⟨some 4,.assign (.tmp 49),3,ps,#[⟨14,.data⟩,⟨0,.phase⟩,⟨1,.phase⟩,⟨2,.phase⟩,⟨3,.phase⟩,⟨4,.phase⟩,⟨5,.phase⟩,⟨6,.phase⟩,⟨7,.phase⟩,⟨8,.phase⟩,⟨9,.phase⟩,⟨10,.phase⟩,⟨11,.phase⟩,⟨12,.phase⟩,⟨13,.phase⟩,⟨14,.phase⟩],none⟩).run Try.prog W=.ok (.value (.int .i64 by0)) W:=by
          intro ps ev h0 W hSw
          rw [hS] at hSw
          try dsimp only at hSw
          first|(go_simp;done)|(go_simp;with_reducible rfl)
         refine zb4 (fun W'=>S W'∧Below W5.heap.size W5 W') (by kernel_rfl) (by kernel_rfl) ?hC5 ?_
         case hC5=>exact ⟨HSK5.out _ (Below.drew (Below.refl _ _)),Below.drew (Below.refl _ _)⟩
         refine zab (by kernel_rfl) (fun W hW=>z0 _ rfl W hW.1) ?_
         try simp only [Act.put,qA,qZ,qS]
         refine zab (by kernel_rfl) (fun W hW=>z1 _ rfl W hW.1) ?_
         try simp only [Act.put,qA,qZ,qS]
         refine zab (by kernel_rfl) (fun W hW=>z2 _ rfl rfl W hW.1) ?_
         try simp only [Act.put,qA,qZ,qS]
         refine zab (by kernel_rfl) (fun W hW=>z3 _ rfl W hW.1) ?_
         try simp only [Act.put,qA,qZ,qS]
         refine zab (by kernel_rfl) (fun W hW=>z4 _ rfl W hW.1) ?_
         try simp only [Act.put,qA,qZ,qS]
         refine zab (by kernel_rfl) (fun W hW=>z5 _ rfl W hW.1) ?_
         try simp only [Act.put,qA,qZ,qS]
         refine zab (by kernel_rfl) (fun W hW=>z6 _ rfl W hW.1) ?_
         try simp only [Act.put,qA,qZ,qS]
         refine zab (by kernel_rfl) (fun W hW=>z7 _ rfl W hW.1) ?_
         try simp only [Act.put,qA,qZ,qS]
         refine zab (by kernel_rfl) (fun W hW=>z8 _ rfl rfl W hW.1) ?_
         try simp only [Act.put,qA,qZ,qS]
         refine zab (by kernel_rfl) (fun W hW=>z9 _ rfl W hW.1) ?_
         try simp only [Act.put,qA,qZ,qS]
         refine zab (by kernel_rfl) (fun W hW=>z10 _ rfl W hW.1) ?_
         try simp only [Act.put,qA,qZ,qS]
         refine zab (by kernel_rfl) (fun W hW=>z11 _ rfl rfl W hW.1) ?_
         try simp only [Act.put,qA,qZ,qS]
         refine zab (by kernel_rfl) (fun W hW=>z12 _ rfl rfl W hW.1) ?_
         try simp only [Act.put,qA,qZ,qS]
         refine zab (by kernel_rfl) (fun W hW=>z13 _ rfl W hW.1) ?_
         try simp only [Act.put,qA,qZ,qS]
         refine zab (by kernel_rfl) (fun W hW=>z14 _ rfl W hW.1) ?_
         try simp only [Act.put,qA,qZ,qS]
         refine zab (by kernel_rfl) (fun W hW=>z15 _ rfl W hW.1) ?_
         try simp only [Act.put,qA,qZ,qS]
         refine zb2 ?_
         intro W6 hC6
         have HB6:Hid (Below w.heap.size w W6):=hB.out.trans (hC6.2.mono hB.out.size)
         clear z0 z1 z2 z3 z4 z5 z6 z7 z8 z9 z10 z11 z12 z13 z14 z15 hC6 HSK5 hS
         go_wp2_with fail
         go_ret
         exact ⟨by first|rfl|exact za9 HV.out,HB6.out⟩
      · have g2:decide (x<e.f+(e.bs.length:Int))=false:=by simp;omega
        have HD:Hid (Pl.hasL ((es.drop j).map En.pc) x=Pl.hasL ((es.drop (j+1)).map En.pc) x):=by rw [hhas,if_neg (fun h=>q2 h.2)];exact rfl
        obtain ⟨S,hS⟩:∃ S:World→Prop,S=fun W=>W.cell? ⟨b,o+j*2,none⟩=some (.int .i64 e.f)∧W.cell? ⟨b,o+j*2+1,none⟩=some (.slice e.a e.bs.length e.c):=⟨_,rfl⟩
        have HSK:Hid (∀ W,Below wr.heap.size wr W→S W):=fun W hW=>by
         rw [hS]
         exact ⟨(hW.cell (p:=⟨_,_,none⟩) (zac e1)).trans e1,(hW.cell (p:=⟨_,_,none⟩) (zac e2)).trans e2⟩
        clear e1 e2 hhas oke
        go_wp2_with fail
        as_aux_lemma =>
         obtain ⟨y0,y1,y2,y3,y4,y5,y6,y7,y8,y9,y10,y11,y12,y13,y14,y15,y16,y17,y18,y19,y20,y21,y22⟩:(∀ {ps} (ev:EV),ev (.tmp 1)=.int .i64 x→Yl Try.prog S ev ⟨some 12,.move (.tmp 1),3,ps,#[],none⟩ ((.int .i64 x)))∧(∀ {ps} (ev:EV),ev (.tmp 0)=.slice (some ⟨b,o,none⟩) n c→Yl Try.prog S ev ⟨some 13,.move (.tmp 0),23,ps,#[],none⟩ ((.slice (some ⟨b,o,none⟩) n c)))∧(∀ {ps} (ev:EV),ev (.tmp 5)=.int .i64 (j:Int)→Yl Try.prog S ev ⟨some 14,.move (.tmp 5),3,ps,#[],none⟩ ((.int .i64 (j:Int))))∧(∀ {ps} (ev:EV),ev (.tmp 13)=.slice (some ⟨b,o,none⟩) n c→ev (.tmp 14)=.int .i64 (j:Int)→Yl Try.prog S ev ⟨some 15,.indexAddr 23 (.tmp 13) (.tmp 14),0,ps,#[⟨1,.data⟩,⟨2,.data⟩],none⟩ ((.pointer (some ⟨b,o+j*2,none⟩))))∧(∀ {ps} (ev:EV),ev (.tmp 15)=.pointer (some ⟨b,o+j*2,none⟩)→Yl Try.prog S ev ⟨some 16,.fieldAddr 74 (.tmp 15) 0,0,ps,#[⟨3,.data⟩],none⟩ ((.pointer (some ⟨b,o+j*2,none⟩))))∧(∀ {ps} (ev:EV),ev (.tmp 16)=.pointer (some ⟨b,o+j*2,none⟩)→Yl Try.prog S ev ⟨some 17,.load 3 (.tmp 16),3,ps,#[⟨4,.data⟩],none⟩ ((.int .i64 e.f)))∧(∀ {ps} (ev:EV),ev (.tmp 12)=.int .i64 x→ev (.tmp 17)=.int .i64 e.f→Yl Try.prog S ev ⟨some 18,.binOp .geq 3 (.tmp 12) (.tmp 17) 3,4,ps,#[⟨0,.data⟩,⟨5,.data⟩],none⟩ ((.bool true)))∧(∀ {ps} (ev:EV),ev (.tmp 18)=.bool true→Yl Try.prog S ev ⟨some 19,.move (.tmp 18),4,ps,#[⟨6,.data⟩],none⟩ ((.bool true)))∧(∀ {ps} (ev:EV),ev (.tmp 1)=.int .i64 x→Yl Try.prog S ev ⟨some 20,.move (.tmp 1),3,ps,#[⟨7,.guard⟩],some (7,true)⟩ ((.int .i64 x)))∧(∀ {ps} (ev:EV),ev (.tmp 0)=.slice (some ⟨b,o,none⟩) n c→Yl Try.prog S ev ⟨some 21,.move (.tmp 0),23,ps,#[⟨7,.guard⟩],some (7,true)⟩ ((.slice (some ⟨b,o,none⟩) n c)))∧(∀ {ps} (ev:EV),ev (.tmp 5)=.int .i64 (j:Int)→Yl Try.prog S ev ⟨some 22,.move (.tmp 5),3,ps,#[⟨7,.guard⟩],some (7,true)⟩ ((.int .i64 (j:Int))))∧(∀ {ps} (ev:EV),ev (.tmp 21)=.slice (some ⟨b,o,none⟩) n c→ev (.tmp 22)=.int .i64 (j:Int)→Yl Try.prog S ev ⟨some 23,.indexAddr 23 (.tmp 21) (.tmp 22),0,ps,#[⟨9,.data⟩,⟨10,.data⟩,⟨7,.guard⟩],some (7,true)⟩ ((.pointer (some ⟨b,o+j*2,none⟩))))∧(∀ {ps} (ev:EV),ev (.tmp 23)=.pointer (some ⟨b,o+j*2,none⟩)→Yl Try.prog S ev ⟨some 24,.fieldAddr 74 (.tmp 23) 0,0,ps,#[⟨11,.data⟩,⟨7,.guard⟩],some (7,true)⟩ ((.pointer (some ⟨b,o+j*2,none⟩))))∧(∀ {ps} (ev:EV),ev (.tmp 24)=.pointer (some ⟨b,o+j*2,none⟩)→Yl Try.prog S ev ⟨some 25,.load 3 (.tmp 24),3,ps,#[⟨12,.data⟩,⟨7,.guard⟩],some (7,true)⟩ ((.int .i64 e.f)))∧(∀ {ps} (ev:EV),ev (.tmp 0)=.slice (some ⟨b,o,none⟩) n c→Yl Try.prog S ev ⟨some 26,.move (.tmp 0),23,ps,#[⟨7,.guard⟩],some (7,true)⟩ ((.slice (some ⟨b,o,none⟩) n c)))∧(∀ {ps} (ev:EV),ev (.tmp 5)=.int .i64 (j:Int)→Yl Try.prog S ev ⟨some 27,.move (.tmp 5),3,ps,#[⟨7,.guard⟩],some (7,true)⟩ ((.int .i64 (j:Int))))∧(∀ {ps} (ev:EV),ev (.tmp 26)=.slice (some ⟨b,o,none⟩) n c→ev (.tmp 27)=.int .i64 (j:Int)→Yl Try.prog S ev ⟨some 28,.indexAddr 23 (.tmp 26) (.tmp 27),0,ps,#[⟨14,.data⟩,⟨15,.data⟩,⟨7,.guard⟩],some (7,true)⟩ ((.pointer (some ⟨b,o+j*2,none⟩))))∧(∀ {ps} (ev:EV),ev (.tmp 28)=.pointer (some ⟨b,o+j*2,none⟩)→Yl Try.prog S ev ⟨some 29,.fieldAddr 74 (.tmp 28) 1,0,ps,#[⟨16,.data⟩,⟨7,.guard⟩],some (7,true)⟩ ((.pointer (some ⟨b,o+j*2+1,none⟩))))∧(∀ {ps} (ev:EV),ev (.tmp 29)=.pointer (some ⟨b,o+j*2+1,none⟩)→Yl Try.prog S ev ⟨some 30,.load 22 (.tmp 29),22,ps,#[⟨17,.data⟩,⟨7,.guard⟩],some (7,true)⟩ ((.slice e.a e.bs.length e.c)))∧(∀ {ps} (ev:EV),ev (.tmp 30)=.slice e.a e.bs.length e.c→Yl Try.prog S ev ⟨some 31,.call { callee:=.builtin .len,args:=#[.tmp 30],argTypes:=#[22]},3,ps,#[⟨18,.data⟩,⟨7,.guard⟩],some (7,true)⟩ ((.int .i64 (e.bs.length:Int))))∧(∀ {ps} (ev:EV),ev (.tmp 25)=.int .i64 e.f→ev (.tmp 31)=.int .i64 (e.bs.length:Int)→Yl Try.prog S ev ⟨some 32,.binOp .add 3 (.tmp 25) (.tmp 31) 3,3,ps,#[⟨13,.data⟩,⟨19,.data⟩,⟨7,.guard⟩],some (7,true)⟩ ((.int .i64 (e.f+(e.bs.length:Int)))))∧(∀ {ps} (ev:EV),ev (.tmp 20)=.int .i64 x→ev (.tmp 32)=.int .i64 (e.f+(e.bs.length:Int))→Yl Try.prog S ev ⟨some 33,.binOp .lss 3 (.tmp 20) (.tmp 32) 3,4,ps,#[⟨8,.data⟩,⟨20,.data⟩,⟨7,.guard⟩],some (7,true)⟩ ((.bool false)))∧(∀ {ps} (ev:EV),ev (.tmp 19)=.bool true→ev (.tmp 33)=.bool false→ev (.const (Go.Value.bool false))=(Go.Value.bool false)→Yl Try.prog S ev ⟨some 34,.pick (.tmp 19) (.tmp 33) (.const (.bool false)),4,ps,#[⟨7,.data⟩,⟨21,.data⟩],none⟩ ((.bool false))):=by
          refine ⟨?_,?_,?_,?_,?_,?_,?_,?_,?_,?_,?_,?_,?_,?_,?_,?_,?_,?_,?_,?_,?_,?_,?_⟩<;>(intros;intro W hSw;rw [hS] at hSw;(try dsimp only at hSw);go_simp<;>with_reducible rfl)
         refine zb4 (fun W'=>S W'∧Below wr.heap.size wr W') (by kernel_rfl) (by kernel_rfl) ?hC ?_
         case hC=>exact ⟨HSK.out _ (Below.drew (Below.refl _ _)),Below.drew (Below.refl _ _)⟩
         refine zab (by kernel_rfl) (fun W hW=>y0 _ rfl W hW.1) ?_
         try simp only [Act.put,qA,qZ,qS]
         refine zab (by kernel_rfl) (fun W hW=>y1 _ rfl W hW.1) ?_
         try simp only [Act.put,qA,qZ,qS]
         refine zab (by kernel_rfl) (fun W hW=>y2 _ rfl W hW.1) ?_
         try simp only [Act.put,qA,qZ,qS]
         refine zab (by kernel_rfl) (fun W hW=>y3 _ rfl rfl W hW.1) ?_
         try simp only [Act.put,qA,qZ,qS]
         refine zab (by kernel_rfl) (fun W hW=>y4 _ rfl W hW.1) ?_
         try simp only [Act.put,qA,qZ,qS]
         refine zab (by kernel_rfl) (fun W hW=>y5 _ rfl W hW.1) ?_
         try simp only [Act.put,qA,qZ,qS]
         refine zab (by kernel_rfl) (fun W hW=>y6 _ rfl rfl W hW.1) ?_
         try simp only [Act.put,qA,qZ,qS]
         refine zab (by kernel_rfl) (fun W hW=>y7 _ rfl W hW.1) ?_
         try simp only [Act.put,qA,qZ,qS]
         refine zab (by kernel_rfl) (fun W hW=>y8 _ rfl W hW.1) ?_
         try simp only [Act.put,qA,qZ,qS]
         refine zab (by kernel_rfl) (fun W hW=>y9 _ rfl W hW.1) ?_
         try simp only [Act.put,qA,qZ,qS]
         refine zab (by kernel_rfl) (fun W hW=>y10 _ rfl W hW.1) ?_
         try simp only [Act.put,qA,qZ,qS]
         refine zab (by kernel_rfl) (fun W hW=>y11 _ rfl rfl W hW.1) ?_
         try simp only [Act.put,qA,qZ,qS]
         refine zab (by kernel_rfl) (fun W hW=>y12 _ rfl W hW.1) ?_
         try simp only [Act.put,qA,qZ,qS]
         refine zab (by kernel_rfl) (fun W hW=>y13 _ rfl W hW.1) ?_
         try simp only [Act.put,qA,qZ,qS]
         refine zab (by kernel_rfl) (fun W hW=>y14 _ rfl W hW.1) ?_
         try simp only [Act.put,qA,qZ,qS]
         refine zab (by kernel_rfl) (fun W hW=>y15 _ rfl W hW.1) ?_
         try simp only [Act.put,qA,qZ,qS]
         refine zab (by kernel_rfl) (fun W hW=>y16 _ rfl rfl W hW.1) ?_
         try simp only [Act.put,qA,qZ,qS]
         refine zab (by kernel_rfl) (fun W hW=>y17 _ rfl W hW.1) ?_
         try simp only [Act.put,qA,qZ,qS]
         refine zab (by kernel_rfl) (fun W hW=>y18 _ rfl W hW.1) ?_
         try simp only [Act.put,qA,qZ,qS]
         refine zab (by kernel_rfl) (fun W hW=>y19 _ rfl W hW.1) ?_
         try simp only [Act.put,qA,qZ,qS]
         refine zab (by kernel_rfl) (fun W hW=>y20 _ rfl rfl W hW.1) ?_
         try simp only [Act.put,qA,qZ,qS]
         refine zab (by kernel_rfl) (fun W hW=>y21 _ rfl rfl W hW.1) ?_
         try simp only [Act.put,qA,qZ,qS]
         refine zab (by kernel_rfl) (fun W hW=>y22 _ rfl rfl rfl W hW.1) ?_
         try simp only [Act.put,qA,qZ,qS]
         refine zb2 ?_
         intro W5 hC5
         have hB5:Below wr.heap.size wr W5:=hC5.2
         clear y0 y1 y2 y3 y4 y5 y6 y7 y8 y9 y10 y11 y12 y13 y14 y15 y16 y17 y18 y19 y20 y21 y22 hC5
         have HN:Hid (Below w.heap.size w W5∧Pl.hasL (es.map En.pc) x=Pl.hasL ((es.drop (j+1)).map En.pc) x):=⟨HR.out.1.trans (hB5.mono HR.out.1.size),HR.out.2.trans HD.out⟩
         clear hB5 HSK HR HD hS
         go_wp2_with fail
         go_roundw
         case rel=>exact ⟨j+1,by go_num,by omega,HN⟩
         case measure=>simp [intOf];omega
    · have g1:decide (e.f≤x)=false:=by simp;omega
      have HD:Hid (Pl.hasL ((es.drop j).map En.pc) x=Pl.hasL ((es.drop (j+1)).map En.pc) x):=by rw [hhas,if_neg (fun h=>q1 h.1)];exact rfl
      obtain ⟨S,hS⟩:∃ S:World→Prop,S=fun W=>W.cell? ⟨b,o+j*2,none⟩=some (.int .i64 e.f)∧W.cell? ⟨b,o+j*2+1,none⟩=some (.slice e.a e.bs.length e.c):=⟨_,rfl⟩
      have HSK:Hid (∀ W,Below wr.heap.size wr W→S W):=fun W hW=>by
       rw [hS]
       exact ⟨(hW.cell (p:=⟨_,_,none⟩) (zac e1)).trans e1,(hW.cell (p:=⟨_,_,none⟩) (zac e2)).trans e2⟩
      clear e1 e2 hhas oke
      go_wp2_with fail
      as_aux_lemma =>
       obtain ⟨y0,y1,y2,y3,y4,y5,y6,y7,y22⟩:(∀ {ps} (ev:EV),ev (.tmp 1)=.int .i64 x→Yl Try.prog S ev ⟨some 12,.move (.tmp 1),3,ps,#[],none⟩ ((.int .i64 x)))∧(∀ {ps} (ev:EV),ev (.tmp 0)=.slice (some ⟨b,o,none⟩) n c→Yl Try.prog S ev ⟨some 13,.move (.tmp 0),23,ps,#[],none⟩ ((.slice (some ⟨b,o,none⟩) n c)))∧(∀ {ps} (ev:EV),ev (.tmp 5)=.int .i64 (j:Int)→Yl Try.prog S ev ⟨some 14,.move (.tmp 5),3,ps,#[],none⟩ ((.int .i64 (j:Int))))∧(∀ {ps} (ev:EV),ev (.tmp 13)=.slice (some ⟨b,o,none⟩) n c→ev (.tmp 14)=.int .i64 (j:Int)→Yl Try.prog S ev ⟨some 15,.indexAddr 23 (.tmp 13) (.tmp 14),0,ps,#[⟨1,.data⟩,⟨2,.data⟩],none⟩ ((.pointer (some ⟨b,o+j*2,none⟩))))∧(∀ {ps} (ev:EV),ev (.tmp 15)=.pointer (some ⟨b,o+j*2,none⟩)→Yl Try.prog S ev ⟨some 16,.fieldAddr 74 (.tmp 15) 0,0,ps,#[⟨3,.data⟩],none⟩ ((.pointer (some ⟨b,o+j*2,none⟩))))∧(∀ {ps} (ev:EV),ev (.tmp 16)=.pointer (some ⟨b,o+j*2,none⟩)→Yl Try.prog S ev ⟨some 17,.load 3 (.tmp 16),3,ps,#[⟨4,.data⟩],none⟩ ((.int .i64 e.f)))∧(∀ {ps} (ev:EV),ev (.tmp 12)=.int .i64 x→ev (.tmp 17)=.int .i64 e.f→Yl Try.prog S ev ⟨some 18,.binOp .geq 3 (.tmp 12) (.tmp 17) 3,4,ps,#[⟨0,.data⟩,⟨5,.data⟩],none⟩ ((.bool false)))∧(∀ {ps} (ev:EV),ev (.tmp 18)=.bool false→Yl Try.prog S ev ⟨some 19,.move (.tmp 18),4,ps,#[⟨6,.data⟩],none⟩ ((.bool false)))∧(∀ {ps} (ev:EV),ev (.tmp 19)=.bool false→ev (.const (Go.Value.bool false))=(Go.Value.bool false)→Yl Try.prog S ev ⟨some 34,.pick (.tmp 19) (.tmp 33) (.const (.bool false)),4,ps,#[⟨7,.data⟩,⟨21,.data⟩],none⟩ ((.bool false))):=by
        refine ⟨?_,?_,?_,?_,?_,?_,?_,?_,?_⟩<;>(intros;intro W hSw;rw [hS] at hSw;(try dsimp only at hSw);go_simp<;>with_reducible rfl)
       refine zb4 (fun W'=>S W'∧Below wr.heap.size wr W') (by kernel_rfl) (by kernel_rfl) ?hC ?_
       case hC=>exact ⟨HSK.out _ (Below.drew (Below.refl _ _)),Below.drew (Below.refl _ _)⟩
       refine zab (by kernel_rfl) (fun W hW=>y0 _ rfl W hW.1) ?_
       try simp only [Act.put,qA,qZ,qS]
       refine zab (by kernel_rfl) (fun W hW=>y1 _ rfl W hW.1) ?_
       try simp only [Act.put,qA,qZ,qS]
       refine zab (by kernel_rfl) (fun W hW=>y2 _ rfl W hW.1) ?_
       try simp only [Act.put,qA,qZ,qS]
       refine zab (by kernel_rfl) (fun W hW=>y3 _ rfl rfl W hW.1) ?_
       try simp only [Act.put,qA,qZ,qS]
       refine zab (by kernel_rfl) (fun W hW=>y4 _ rfl W hW.1) ?_
       try simp only [Act.put,qA,qZ,qS]
       refine zab (by kernel_rfl) (fun W hW=>y5 _ rfl W hW.1) ?_
       try simp only [Act.put,qA,qZ,qS]
       refine zab (by kernel_rfl) (fun W hW=>y6 _ rfl rfl W hW.1) ?_
       try simp only [Act.put,qA,qZ,qS]
       refine zab (by kernel_rfl) (fun W hW=>y7 _ rfl W hW.1) ?_
       try simp only [Act.put,qA,qZ,qS]
       refine zap (by kernel_rfl) ?_
       try simp only [Act.put,qA,qZ,qS]
       refine zap (by kernel_rfl) ?_
       try simp only [Act.put,qA,qZ,qS]
       refine zap (by kernel_rfl) ?_
       try simp only [Act.put,qA,qZ,qS]
       refine zap (by kernel_rfl) ?_
       try simp only [Act.put,qA,qZ,qS]
       refine zap (by kernel_rfl) ?_
       try simp only [Act.put,qA,qZ,qS]
       refine zap (by kernel_rfl) ?_
       try simp only [Act.put,qA,qZ,qS]
       refine zap (by kernel_rfl) ?_
       try simp only [Act.put,qA,qZ,qS]
       refine zap (by kernel_rfl) ?_
       try simp only [Act.put,qA,qZ,qS]
       refine zap (by kernel_rfl) ?_
       try simp only [Act.put,qA,qZ,qS]
       refine zap (by kernel_rfl) ?_
       try simp only [Act.put,qA,qZ,qS]
       refine zap (by kernel_rfl) ?_
       try simp only [Act.put,qA,qZ,qS]
       refine zap (by kernel_rfl) ?_
       try simp only [Act.put,qA,qZ,qS]
       refine zap (by kernel_rfl) ?_
       try simp only [Act.put,qA,qZ,qS]
       refine zap (by kernel_rfl) ?_
       try simp only [Act.put,qA,qZ,qS]
       refine zab (by kernel_rfl) (fun W hW=>y22 _ rfl rfl W hW.1) ?_
       try simp only [Act.put,qA,qZ,qS]
       refine zb2 ?_
       intro W5 hC5
       have hB5:Below wr.heap.size wr W5:=hC5.2
       clear y0 y1 y2 y3 y4 y5 y6 y7 y22 hC5
       have HN:Hid (Below w.heap.size w W5∧Pl.hasL (es.map En.pc) x=Pl.hasL ((es.drop (j+1)).map En.pc) x):=⟨HR.out.1.trans (hB5.mono HR.out.1.size),HR.out.2.trans HD.out⟩
       clear hB5 HSK HR HD hS
       go_wp2_with fail
       go_roundw
       case rel=>exact ⟨j+1,by go_num,by omega,HN⟩
       case measure=>simp [intOf];omega
  · obtain rfl:j=n:=by omega
    have hge:¬((j:Int)<(j:Int)):=by omega
    have hv1:(-1:Int)=v:=by
     have e4:=HS.out.2.2.2
     rw [HR.out.2,List.drop_of_length_le (by rw [HS.out.2.1];exact Nat.le_refl _)] at e4
     exact e4
    go_wp2_with fail
    go_ret
    exact ⟨by first|rfl|exact za9 hv1,HR.out.1⟩
end Go.Proofs.Ytkigcdmlkmcdcaa
