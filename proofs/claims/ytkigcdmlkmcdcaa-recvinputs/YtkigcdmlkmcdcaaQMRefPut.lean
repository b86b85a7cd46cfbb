/- The document's put. -/
import Derived.Test.YtkigcdmlkmcdcaaQZ
import Derived.Test.YtkigcdmlkmcdcaaQMRefTkP
import Derived.Test.YtkigcdmlkmcdcaaQGF
namespace Go.Proofs.Ytkigcdmlkmcdcaa
open Go.ChangeShapes Go.WideShapes Go.ChangeAt Go.RowKit
set_option linter.unusedVariables false
set_option linter.unusedSimpArgs false
theorem Row.alloc' {w:World} {B:Nat} {va:Option Addr} {L vc:Nat} {bs:List Int} (h:Row w B va L vc bs) (o:Obj):Row (w.alloc o) B va L vc bs:=h.later ((Below.refl _ w).alloc (Nat.le_refl _) o)
theorem zbo (w:World) (o:Obj):Below w.heap.size w (w.alloc o):=(Below.refl _ w).alloc (Nat.le_refl _) o
theorem row_lit1 (w:World) (b:Int):Row (w.alloc (.cells #[.int .u8 b] 5)) w.heap.size (some ⟨w.heap.size,0,none⟩) 1 1 [b] :=
 ⟨rfl,.inr ⟨w.heap.size,1,#[.int .u8 b],rfl,Nat.le_refl _,World.alloc_heap_new w _,Nat.le_refl _,by simp [maxLen],rfl,rfl⟩⟩
theorem zhh (w:World) {b:Int} (hb:0≤b∧b≤255):zak (w.alloc (.cells #[.int .u8 b] 5)) (some ⟨w.heap.size,0,none⟩) [b] :=
 (row_lit1 w b).bytes (fun x hx=>by simp at hx;subst hx;exact hb) (by simp)
theorem zfw {X Y:World} {g gl c:Nat} {bs:List Int} (hl:zak X (some ⟨gl,0,none⟩) bs) (hg:X.grownBy Y (Value.slice (some ⟨g,0,none⟩) 0 c).ownBlock) (hne:gl≠g):zak Y (some ⟨gl,0,none⟩) bs:=by
 refine ⟨hl.1,hl.2.1,fun j hj=>?_⟩
 obtain ⟨b,o,e1,e2⟩:=hl.2.2 j hj
 cases e1
 exact ⟨gl,0,rfl,(World.cell?_of_block (w:=X) (hg.block gl (zac e2) (fun e=>by simp [Value.ownBlock] at e;exact hne e))).trans e2⟩
theorem zek {w:World} {ops:Array Oper} {o:Oper} {a:Act} {K:Act→World→Prop} {Q:Exit→Act→World→Prop} {E:Prop} (hgd:o.guard=none) (s x:Operand)
 (ho:o.op=.call { callee:=.builtin .append,args:=#[s,x],argTypes:=#[22,22]})
 (B:Nat) (va:Option Addr) (vc:Nat) (xa:Option Addr) (m xc:Nat) (news:List Int) (hs:a.eval s=.slice va 0 vc) (hx:a.eval x=.slice xa m xc)
 (hR:Row w B va 0 vc []) (hn:zak w xa news) (hl:news.length=m) (h0:xa=none→xc=0) (hb:m≤140737488355328) (hB:B≤w.heap.size)
 (h:∀ va' vc' w',Row w' B va' m vc' news→Below B w w'→w.grownBy w' (Value.ownBlock (.slice va 0 vc))→K (a.put o.dst (.slice va' m vc')) w') :
 if Region.wanted o (yielded ops a.tmps)=true then Oper.wp Try.prog o a w K Q else E :=
 zd8 hgd s x ho B va 0 vc [] xa m xc news hs hx hR hn hl h0 (by omega) hB (fun va' vc' w' h1 h2 h3=>by
  have hz:0+m=m:=Nat.zero_add m
  rw [hz] at h1 ⊢
  exact h va' vc' w' (by simpa using h1) h2 h3)
theorem ents_two (w:World) (x y:En):za5 (w.alloc (.cells #[.int .i64 x.f,.slice x.a x.bs.length x.c,.int .i64 y.f,.slice y.a y.bs.length y.c] 74)) (some ⟨w.heap.size,0,none⟩) [x,y]:=by
 intro j z hj
 have hc:∀ (k:Nat) (v:Value),([Value.int .i64 x.f,.slice x.a x.bs.length x.c,.int .i64 y.f,.slice y.a y.bs.length y.c]:List Value)[k]? = some v→(w.alloc (.cells #[.int .i64 x.f,.slice x.a x.bs.length x.c,.int .i64 y.f,.slice y.a y.bs.length y.c] 74)).cell? ⟨w.heap.size,k,none⟩=some v:=fun k v hv=>by
  have:=World.cell?_alloc_at (w:=w) #[.int .i64 x.f,.slice x.a x.bs.length x.c,.int .i64 y.f,.slice y.a y.bs.length y.c] 74 w.heap.size k rfl
  rw [this];simpa using hv
 match j,hj with
 | 0,hj=>simp at hj;subst hj;exact ⟨_,_,rfl,hc 0 _ rfl,hc 1 _ rfl⟩
 | 1,hj=>simp at hj;subst hj;exact ⟨_,_,rfl,hc 2 _ rfl,hc 3 _ rfl⟩
 | j+2,hj=>simp at hj
set_option maxRecDepth 100000 in
set_option maxHeartbeats 8000000 in
theorem refPut_any (A:Option Addr) (c:Nat) (es:List En) (w:World) (hP:PcsAt w A c es) (n:Nat) (hn:es.length=n) (x b lo hi l0:Int) (hb:0≤b∧b≤255) (hbd:0≤lo∧hi≤1125899906842624∧hi-lo≤4294967296) (hx:lo≤x∧x<hi) (hes:∀ e∈es,lo≤e.f∧Pl.pend e.pc≤hi) (hlat:Pl.latB l0 (es.map En.pc)) :
 Calls Try.prog 69 #[.slice A n c,.int .i64 x,.int .u8 b] w fun e w'=>∃ va vc es' fr l1 l2,e=.returned (.slice va es'.length vc)∧es'=l1++fr::l2∧(l1++l2).Sublist es∧es'.map En.pc=Pl.putL (es.map En.pc) x b∧RowE w' w.heap.size va es'.length vc es'∧fr.mine w' w.heap.size∧Below w.heap.size w w':=by
 have HS:Hid (PcsAt w A c es∧es.length=n∧(∀ e∈es,lo≤e.f∧Pl.pend e.pc≤hi)):=⟨hP,hn,hes⟩
 have hb1:n*32≤140737488351232:=by have:=hP.reach;omega
 have HBY:Hid (0≤b∧b≤255):=hb
 have HBY1:Hid (Byts [b]):=fun y hy=>by simp at hy;subst hy;exact hb
 obtain ⟨W0,hW0⟩:∃ W0,(w.alloc (.cells #[.int .u8 b] 5)).alloc (.cells #[.int .i64 x,.slice (some ⟨w.heap.size,0,none⟩) 1 1] 74)=W0:=⟨_,rfl⟩
 have H0:Hid (PutI w W0 es x b lo hi 0 false none 0 [] ⟨x,some ⟨w.heap.size,0,none⟩,1,[b]⟩):=by
  unfold Hid
  rw [← hW0]
  refine ⟨RowE.nil _ _,?_,⟨(row_lit1 w b).alloc' _,HBY1.out,by simp,by show I64 x;unfold I64;omega⟩,zaa (zbo w _) _,rfl,(fun _=>by simp),(fun h=>by cases h),fun _=>⟨l0,hlat,.inr (by simp [Pl.pend,En.pc])⟩,(fun h=>by cases h),hx.1,by simp [Pl.pend,En.pc];omega⟩
  have:=Box.new (w.alloc (.cells #[.int .u8 b] 5)) 74 [.int .i64 x,.slice (some ⟨w.heap.size,0,none⟩) 1 1]
  rwa [World.size_alloc] at this
 have hbx:lo≤x∧x<hi∧0≤lo∧hi≤1125899906842624∧hi-lo≤4294967296:=⟨hx.1,hx.2,hbd⟩
 clear hP hn hes hb hlat hx hbd
 go_enter Try.func69,Try.ntmps69
 go_upto_region 3 with fail
 try rw [hW0]
 clear hW0
 go_wp2_with fail
 go_loopw [7,9,10] (fun vo vd vi wr=>∃ (i:Nat) (dn:Bool) (va:Option Addr) (vc:Nat) (oE:List En) (fr:En),vo=.slice va oE.length vc∧vd=.bool dn∧vi=.int .i64 (i:Int)∧i≤n∧Hid (PutI w wr es x b lo hi i dn va vc oE fr))
  (fun _ _ vi _=>n-(intOf vi).toNat)
 case atStart=>exact ⟨0,false,none,0,[],_,rfl,rfl,rfl,Nat.zero_le _,H0.out⟩
 case round =>
  obtain ⟨i,dn,va,vc,oE,fr,rfl,rfl,rfl,hin,HP⟩:=hrel
  obtain ⟨m,hm⟩:∃ m,oE.length=m:=⟨_,rfl⟩
  have HM:Hid (oE.length=m):=hm
  obtain ⟨fl,hfl⟩:∃ l,fr.bs.length=l:=⟨_,rfl⟩
  have HFL:Hid (fr.bs.length=fl):=hfl
  rw [hm]
  clear hm hfl H0
  by_cases hlt:i<n
  · have hlt':(i:Int)<(n:Int):=by omega
    obtain ⟨e,he⟩:∃ e,es[i]? = some e:=⟨_,List.getElem?_eq_getElem (by rw [HS.out.2.1];exact hlt)⟩
    have HE0:Hid (es[i]? = some e):=he
    have hmem:=List.mem_of_getElem? he
    obtain ⟨hf0,hf1⟩:=HS.out.2.2 e hmem
    obtain ⟨el,hel⟩:∃ l,e.bs.length=l:=⟨_,rfl⟩
    have HEL:Hid (e.bs.length=el):=hel
    have hPr:=HS.out.1.later HP.out.bel
    obtain ⟨bb,oo,ka,e1,e2⟩:=hPr.ents i e he
    have oke:=hPr.ok e hmem
    rw [hel] at e2
    subst ka
    have hpe:e.f+(el:Int)≤hi:=by rw [← hel];exact hf1
    have hpf:fr.f+(fl:Int)≤hi∧lo≤fr.f:=by rw [← HFL.out];exact ⟨HP.out.fb.2,HP.out.fb.1⟩
    have HBD:Hid (x<hi∧lo≤e.f∧Pl.pend e.pc≤hi):=⟨hbx.2.1,hf0,hf1⟩
    obtain ⟨P,hPP⟩:∃ P,wr.heap.size=P:=⟨_,rfl⟩
    obtain ⟨W1,hW1⟩:∃ W1,wr.alloc (.cells #[.int .i64 e.f,.slice e.a el e.c] 74)=W1:=⟨_,rfl⟩
    have HP1:Hid (PutI w W1 es x b lo hi i dn va vc oE fr):=by unfold Hid;rw [← hW1];exact HP.out.later (zbo wr _)
    have HP2:Hid (Box W1 P 74 [.int .i64 e.f,.slice e.a el e.c]):=by unfold Hid;rw [← hW1,← hPP];exact Box.new wr 74 [.int .i64 e.f,.slice e.a el e.c]
    have hok1:=oke.later (w':=W1) (by rw [← hW1];exact zbo wr _)
    have HEB:Hid (zak W1 e.a e.bs∧(e.a=none→e.c=0)∧el≤4294967296):=⟨hok1.1.1,hok1.1.2.1,by omega⟩
    have HEB2:Hid (Byts e.bs):=hok1.1.1.2.1
    have HEB3:Hid (I64 e.f):=hok1.2
    clear he hmem hPr oke hok1 hf1 hel
    go_upto_region 9 with fail
    try rw [hW1]
    try rw [hPP]
    clear hW1 hPP HP e1 e2
    have p0:=HP2.out.cell 0 rfl
    have p1:=HP2.out.cell 1 rfl
    have hq:=HP1.out.box
    rw [HFL.out] at hq
    have f0:=hq.cell 0 rfl
    have f1:=hq.cell 1 rfl
    have ff:=fun i=>hq.frozen i
    clear hq
    by_cases q1:e.f+(el:Int)=x
    · have Q1:Hid (Pl.pend e.pc=x):=by show e.f+(e.bs.length:Int)=x;rw [HEL.out];exact q1
      have g1:(e.f+(el:Int)==x)=true:=by simpa using q1
      clear q1
      obtain ⟨S,hS⟩:∃ S:World→Prop,S=fun W=>W.cell? ⟨P,0,none⟩=some (.int .i64 e.f)∧W.cell? ⟨P,1,none⟩=some (.slice e.a el e.c):=⟨_,rfl⟩
      have HSK:Hid (∀ W,Below W1.heap.size W1 W→S W):=fun W hW=>by
       rw [hS]
       exact ⟨(HP2.out.later hW).cell 0 rfl,(HP2.out.later hW).cell 1 rfl⟩
      go_upto_region 10 with fail
      clear p0 p1 f0 f1
      obtain ⟨y0,y1,y3,y4,y6⟩:(∀ {ps} (ev:EV),ev (.tmp 11)=.pointer (some ⟨P,0,none⟩)→Yl Try.prog S ev ⟨some 39,.fieldAddr 74 (.tmp 11) 0,0,ps,#[],none⟩ ((.pointer (some ⟨P,0,none⟩))))∧(∀ {ps} (ev:EV),ev (.tmp 39)=.pointer (some ⟨P,0,none⟩)→Yl Try.prog S ev ⟨some 40,.load 3 (.tmp 39),3,ps,#[⟨0,.data⟩],none⟩ ((.int .i64 e.f)))∧(∀ {ps} (ev:EV),ev (.tmp 11)=.pointer (some ⟨P,0,none⟩)→Yl Try.prog S ev ⟨some 42,.fieldAddr 74 (.tmp 11) 1,0,ps,#[],none⟩ ((.pointer (some ⟨P,1,none⟩))))∧(∀ {ps} (ev:EV),ev (.tmp 42)=.pointer (some ⟨P,1,none⟩)→Yl Try.prog S ev ⟨some 43,.load 22 (.tmp 42),22,ps,#[⟨3,.data⟩],none⟩ ((.slice e.a el e.c)))∧(∀ {ps} (ev:EV),ev (.tmp 2)=.int .u8 b→Yl Try.prog S ev ⟨some 45,.move (.tmp 2),5,ps,#[],none⟩ ((.int .u8 b))):=by
       refine ⟨?_,?_,?_,?_,?_⟩<;>(intros;intro W hSw;rw [hS] at hSw;(try dsimp only at hSw);go_simp<;>with_reducible rfl)
      refine zaq S 10 (by kernel_rfl) (HSK.out _ (Below.drew (Below.refl _ _))) (fun hHeld=>?_)
      refine zk 0 (y0 _ rfl) ?_
      try simp only [Act.put,qA,qZ,qS]
      refine zk 1 (y1 _ rfl) ?_
      try simp only [Act.put,qA,qZ,qS]
      refine zk 3 (y3 _ rfl) ?_
      try simp only [Act.put,qA,qZ,qS]
      refine zk 4 (y4 _ rfl) ?_
      try simp only [Act.put,qA,qZ,qS]
      refine zk 6 (y6 _ rfl) ?_
      try simp only [Act.put,qA,qZ,qS]
      obtain ⟨V,hV⟩:∃ V,W1.drew=V:=⟨_,rfl⟩
      have BV:Below W1.heap.size W1 V:=by rw [← hV];exact Below.drew (Below.refl _ _)
      rw [hV]
      clear hV hHeld y0 y1 y3 y4 y6
      refine zfg (i:=2) (j:=7) (o:=⟨some 41,.buildSlice 22 0 #[],22,_,#[],none⟩) (o':=⟨some 46,.buildSlice 22 1 #[(0,.tmp 45)],22,_,#[⟨6,.data⟩],none⟩) (by kernel_rfl) rfl rfl (fun K hK=>?_) (fun K hK=>?_)
      · have _:=trivial
        rw [if_pos (by rfl)]
        go_simp
        obtain ⟨U2,hU2⟩:∃ U,V.alloc (.cells #[] 5)=U:=⟨_,rfl⟩
        have BU2:Below W1.heap.size W1 U2:=by rw [← hU2];exact zaa BV _
        have HE:Hid (Row U2 W1.heap.size (some ⟨V.heap.size,0,none⟩) 0 0 []):=by unfold Hid;rw [← hU2];exact zc6 V _ BV.size
        have HZ:Hid (V.heap.size<U2.heap.size):=by unfold Hid;rw [← hU2];simp
        rw [hU2]
        refine hK.out _ _ ⟨fun _=>HSK.out _ BU2,?_⟩
        clear hK K hU2
        try simp only [Act.put,qA,qZ,qS]
        refine zfg (i:=5) (j:=7) (o:=⟨some 44,.call { callee:=.builtin .append,args:=#[.tmp 41,.tmp 43],argTypes:=#[22,22]},22,_,#[⟨2,.data⟩,⟨4,.data⟩],none⟩) (o':=⟨some 46,.buildSlice 22 1 #[(0,.tmp 45)],22,_,#[⟨6,.data⟩],none⟩) (by kernel_rfl) rfl rfl (fun K hK=>?_) (fun K hK=>?_)
        · have _:=trivial
          refine zek rfl (.tmp 41) (.tmp 43) rfl W1.heap.size (some ⟨V.heap.size,0,none⟩) 0 e.a el e.c e.bs rfl rfl HE.out (HEB.out.1.later BU2) HEL.out HEB.out.2.1 (by have:=HEB.out.2.2;omega) BU2.size ?_
          intro fa fc U25 hRn hBn hgn
          have BU25:Below W1.heap.size W1 U25:=BU2.trans hBn
          have HR:Hid (Row U25 W1.heap.size fa el fc e.bs):=hRn
          refine hK.out _ _ ⟨fun _=>HSK.out _ BU25,?_⟩
          clear hK K hRn hBn hgn
          try simp only [Act.put,qA,qZ,qS]
          refine zah (i:=7) (o:=⟨some 46,.buildSlice 22 1 #[(0,.tmp 45)],22,_,#[⟨6,.data⟩],none⟩) (by kernel_rfl) rfl (fun K hK=>?_)
          rw [if_pos (by rfl)]
          go_simp
          obtain ⟨U257,hU257⟩:∃ U,U25.alloc (.cells #[.int .u8 b] 5)=U:=⟨_,rfl⟩
          have BU257:Below W1.heap.size W1 U257:=by rw [← hU257];exact zaa BU25 _
          obtain ⟨gl,hgl⟩:∃ g,U25.heap.size=g:=⟨_,rfl⟩
          have HL:Hid (zak U257 (some ⟨gl,0,none⟩) [b]):=by
           unfold Hid
           rw [← hU257,← hgl]
           exact zhh U25 HBY.out
          have HG:Hid (gl=U25.heap.size∧U25.heap.size<U257.heap.size):=by unfold Hid;rw [← hU257,← hgl];simp
          have HR:Hid (Row U257 W1.heap.size fa el fc e.bs):=by unfold Hid;rw [← hU257];exact HR.out.alloc' _
          rw [hU257,hgl]
          refine hK.out _ _ ⟨fun _=>HSK.out _ BU257,?_⟩
          clear hK K hU257 hgl
          try simp only [Act.put,qA,qZ,qS]
          refine zah (i:=8) (o:=⟨some 47,.call { callee:=.builtin .append,args:=#[.tmp 44,.tmp 46],argTypes:=#[22,22]},22,_,#[⟨5,.data⟩,⟨7,.data⟩,⟨5,.chain⟩],none⟩) (by kernel_rfl) rfl (fun K hK=>?_)
          refine zd8 rfl (.tmp 44) (.tmp 46) rfl W1.heap.size fa el fc e.bs (some ⟨gl,0,none⟩) 1 1 [b] rfl rfl HR.out HL.out rfl (fun h=>by cases h) (by have:=HEB.out.2.2;omega) BU257.size ?_
          intro fa2 fc2 Ux hRx hBx _
          have BUx:Below W1.heap.size W1 Ux:=BU257.trans hBx
          refine hK.out _ _ ⟨fun _=>HSK.out _ BUx,?_⟩
          clear hK K
          try simp only [Act.put,qA,qZ,qS]
          refine zah (i:=9) (o:=⟨some 48,.build 74 #[(0,.tmp 40),(1,.tmp 47)],74,_,#[⟨1,.data⟩,⟨8,.data⟩],none⟩) (by kernel_rfl) rfl (fun K hK=>?_)
          rw [if_pos (by rfl)]
          go_simp
          refine hK.out _ _ ⟨fun _=>HSK.out _ BUx,?_⟩
          clear hK K
          try simp only [Act.put,qA,qZ,qS]
          have hbx:=HP1.out.box.later BUx
          have c0:=hbx.cell 0 rfl
          have c1:=hbx.cell 1 rfl
          have fz:=fun i=>hbx.frozen i
          have HF:=HP1.out.on (fa:=fa2) (fc:=fc2) HE0.out Q1.out HBD.out.1 HBD.out.2.1 BUx ⟨by simpa [HEL.out] using hRx,zbv HEB2.out HBY1.out,by have:=HEB.out.2.2;have:=HEL.out;simp;omega,HEB3.out⟩
          clear hRx hBx hbx
          refine zah (i:=10) (o:=⟨none,.store 74 (.tmp 8) (.tmp 48),0,_,#[⟨9,.data⟩,⟨8,.chain⟩,⟨0,.phase⟩,⟨1,.phase⟩,⟨2,.phase⟩,⟨3,.phase⟩,⟨4,.phase⟩,⟨5,.phase⟩,⟨6,.phase⟩,⟨7,.phase⟩,⟨8,.phase⟩,⟨9,.phase⟩],none⟩) (by kernel_rfl) rfl (fun K hK=>?_)
          rw [if_pos (by rfl)]
          go_simp
          refine hK.out _ _ ⟨fun h=>absurd rfl h,?_⟩
          clear hK K
          try simp only [Act.put,qA,qZ,qS]
          refine zax (by kernel_rfl) ?_ _
          try simp only [Act.put,qA,qZ,qS]
          clear c0 c1 fz
          go_wp2_with fail
          go_roundw
          case rel=>exact ⟨i+1,dn,va,vc,oE,_,by rw [HM.out],rfl,by go_num,by omega,(by have h:=HF;rw [show (e.bs++[b]).length=el+1 by simp [HEL.out]] at h;exact h)⟩
          case measure=>simp [intOf];omega
        · have _:=trivial
          rw [if_pos (by rfl)]
          go_simp
          obtain ⟨U27,hU27⟩:∃ U,U2.alloc (.cells #[.int .u8 b] 5)=U:=⟨_,rfl⟩
          have BU27:Below W1.heap.size W1 U27:=by rw [← hU27];exact zaa BU2 _
          obtain ⟨gl,hgl⟩:∃ g,U2.heap.size=g:=⟨_,rfl⟩
          have HL:Hid (zak U27 (some ⟨gl,0,none⟩) [b]):=by
           unfold Hid
           rw [← hU27,← hgl]
           exact zhh U2 HBY.out
          have HG:Hid (gl=U2.heap.size∧U2.heap.size<U27.heap.size):=by unfold Hid;rw [← hU27,← hgl];simp
          have HE:Hid (Row U27 W1.heap.size (some ⟨V.heap.size,0,none⟩) 0 0 []):=by unfold Hid;rw [← hU27];exact HE.out.alloc' _
          rw [hU27,hgl]
          refine hK.out _ _ ⟨fun _=>HSK.out _ BU27,?_⟩
          clear hK K hU27 hgl
          try simp only [Act.put,qA,qZ,qS]
          refine zah (i:=5) (o:=⟨some 44,.call { callee:=.builtin .append,args:=#[.tmp 41,.tmp 43],argTypes:=#[22,22]},22,_,#[⟨2,.data⟩,⟨4,.data⟩],none⟩) (by kernel_rfl) rfl (fun K hK=>?_)
          refine zek rfl (.tmp 41) (.tmp 43) rfl W1.heap.size (some ⟨V.heap.size,0,none⟩) 0 e.a el e.c e.bs rfl rfl HE.out (HEB.out.1.later BU27) HEL.out HEB.out.2.1 (by have:=HEB.out.2.2;omega) BU27.size ?_
          intro fa fc U275 hRn hBn hgn
          have BU275:Below W1.heap.size W1 U275:=BU27.trans hBn
          have HR:Hid (Row U275 W1.heap.size fa el fc e.bs):=hRn
          have HL:Hid (zak U275 (some ⟨gl,0,none⟩) [b]):=zfw HL.out hgn (by have:=HG.out;have:=HZ.out;omega)
          refine hK.out _ _ ⟨fun _=>HSK.out _ BU275,?_⟩
          clear hK K hRn hBn hgn
          try simp only [Act.put,qA,qZ,qS]
          refine zah (i:=8) (o:=⟨some 47,.call { callee:=.builtin .append,args:=#[.tmp 44,.tmp 46],argTypes:=#[22,22]},22,_,#[⟨5,.data⟩,⟨7,.data⟩,⟨5,.chain⟩],none⟩) (by kernel_rfl) rfl (fun K hK=>?_)
          refine zd8 rfl (.tmp 44) (.tmp 46) rfl W1.heap.size fa el fc e.bs (some ⟨gl,0,none⟩) 1 1 [b] rfl rfl HR.out HL.out rfl (fun h=>by cases h) (by have:=HEB.out.2.2;omega) BU275.size ?_
          intro fa2 fc2 Ux hRx hBx _
          have BUx:Below W1.heap.size W1 Ux:=BU275.trans hBx
          refine hK.out _ _ ⟨fun _=>HSK.out _ BUx,?_⟩
          clear hK K
          try simp only [Act.put,qA,qZ,qS]
          refine zah (i:=9) (o:=⟨some 48,.build 74 #[(0,.tmp 40),(1,.tmp 47)],74,_,#[⟨1,.data⟩,⟨8,.data⟩],none⟩) (by kernel_rfl) rfl (fun K hK=>?_)
          rw [if_pos (by rfl)]
          go_simp
          refine hK.out _ _ ⟨fun _=>HSK.out _ BUx,?_⟩
          clear hK K
          try simp only [Act.put,qA,qZ,qS]
          have hbx:=HP1.out.box.later BUx
          have c0:=hbx.cell 0 rfl
          have c1:=hbx.cell 1 rfl
          have fz:=fun i=>hbx.frozen i
          have HF:=HP1.out.on (fa:=fa2) (fc:=fc2) HE0.out Q1.out HBD.out.1 HBD.out.2.1 BUx ⟨by simpa [HEL.out] using hRx,zbv HEB2.out HBY1.out,by have:=HEB.out.2.2;have:=HEL.out;simp;omega,HEB3.out⟩
          clear hRx hBx hbx
          refine zah (i:=10) (o:=⟨none,.store 74 (.tmp 8) (.tmp 48),0,_,#[⟨9,.data⟩,⟨8,.chain⟩,⟨0,.phase⟩,⟨1,.phase⟩,⟨2,.phase⟩,⟨3,.phase⟩,⟨4,.phase⟩,⟨5,.phase⟩,⟨6,.phase⟩,⟨7,.phase⟩,⟨8,.phase⟩,⟨9,.phase⟩],none⟩) (by kernel_rfl) rfl (fun K hK=>?_)
          rw [if_pos (by rfl)]
          go_simp
          refine hK.out _ _ ⟨fun h=>absurd rfl h,?_⟩
          clear hK K
          try simp only [Act.put,qA,qZ,qS]
          refine zax (by kernel_rfl) ?_ _
          try simp only [Act.put,qA,qZ,qS]
          clear c0 c1 fz
          go_wp2_with fail
          go_roundw
          case rel=>exact ⟨i+1,dn,va,vc,oE,_,by rw [HM.out],rfl,by go_num,by omega,(by have h:=HF;rw [show (e.bs++[b]).length=el+1 by simp [HEL.out]] at h;exact h)⟩
          case measure=>simp [intOf];omega
      · have _:=trivial
        rw [if_pos (by rfl)]
        go_simp
        obtain ⟨U7,hU7⟩:∃ U,V.alloc (.cells #[.int .u8 b] 5)=U:=⟨_,rfl⟩
        have BU7:Below W1.heap.size W1 U7:=by rw [← hU7];exact zaa BV _
        obtain ⟨gl,hgl⟩:∃ g,V.heap.size=g:=⟨_,rfl⟩
        have HL:Hid (zak U7 (some ⟨gl,0,none⟩) [b]):=by
         unfold Hid
         rw [← hU7,← hgl]
         exact zhh V HBY.out
        have HG:Hid (gl=V.heap.size∧V.heap.size<U7.heap.size):=by unfold Hid;rw [← hU7,← hgl];simp
        rw [hU7,hgl]
        refine hK.out _ _ ⟨fun _=>HSK.out _ BU7,?_⟩
        clear hK K hU7 hgl
        try simp only [Act.put,qA,qZ,qS]
        refine zah (i:=2) (o:=⟨some 41,.buildSlice 22 0 #[],22,_,#[],none⟩) (by kernel_rfl) rfl (fun K hK=>?_)
        rw [if_pos (by rfl)]
        go_simp
        obtain ⟨U72,hU72⟩:∃ U,U7.alloc (.cells #[] 5)=U:=⟨_,rfl⟩
        have BU72:Below W1.heap.size W1 U72:=by rw [← hU72];exact zaa BU7 _
        have HE:Hid (Row U72 W1.heap.size (some ⟨U7.heap.size,0,none⟩) 0 0 []):=by unfold Hid;rw [← hU72];exact zc6 U7 _ BU7.size
        have HZ:Hid (U7.heap.size<U72.heap.size):=by unfold Hid;rw [← hU72];simp
        have HL:Hid (zak U72 (some ⟨gl,0,none⟩) [b]):=by unfold Hid;rw [← hU72];exact HL.out.alloc _
        rw [hU72]
        refine hK.out _ _ ⟨fun _=>HSK.out _ BU72,?_⟩
        clear hK K hU72
        try simp only [Act.put,qA,qZ,qS]
        refine zah (i:=5) (o:=⟨some 44,.call { callee:=.builtin .append,args:=#[.tmp 41,.tmp 43],argTypes:=#[22,22]},22,_,#[⟨2,.data⟩,⟨4,.data⟩],none⟩) (by kernel_rfl) rfl (fun K hK=>?_)
        refine zek rfl (.tmp 41) (.tmp 43) rfl W1.heap.size (some ⟨U7.heap.size,0,none⟩) 0 e.a el e.c e.bs rfl rfl HE.out (HEB.out.1.later BU72) HEL.out HEB.out.2.1 (by have:=HEB.out.2.2;omega) BU72.size ?_
        intro fa fc U725 hRn hBn hgn
        have BU725:Below W1.heap.size W1 U725:=BU72.trans hBn
        have HR:Hid (Row U725 W1.heap.size fa el fc e.bs):=hRn
        have HL:Hid (zak U725 (some ⟨gl,0,none⟩) [b]):=zfw HL.out hgn (by have:=HG.out;have:=HZ.out;omega)
        refine hK.out _ _ ⟨fun _=>HSK.out _ BU725,?_⟩
        clear hK K hRn hBn hgn
        try simp only [Act.put,qA,qZ,qS]
        refine zah (i:=8) (o:=⟨some 47,.call { callee:=.builtin .append,args:=#[.tmp 44,.tmp 46],argTypes:=#[22,22]},22,_,#[⟨5,.data⟩,⟨7,.data⟩,⟨5,.chain⟩],none⟩) (by kernel_rfl) rfl (fun K hK=>?_)
        refine zd8 rfl (.tmp 44) (.tmp 46) rfl W1.heap.size fa el fc e.bs (some ⟨gl,0,none⟩) 1 1 [b] rfl rfl HR.out HL.out rfl (fun h=>by cases h) (by have:=HEB.out.2.2;omega) BU725.size ?_
        intro fa2 fc2 Ux hRx hBx _
        have BUx:Below W1.heap.size W1 Ux:=BU725.trans hBx
        refine hK.out _ _ ⟨fun _=>HSK.out _ BUx,?_⟩
        clear hK K
        try simp only [Act.put,qA,qZ,qS]
        refine zah (i:=9) (o:=⟨some 48,.build 74 #[(0,.tmp 40),(1,.tmp 47)],74,_,#[⟨1,.data⟩,⟨8,.data⟩],none⟩) (by kernel_rfl) rfl (fun K hK=>?_)
        rw [if_pos (by rfl)]
        go_simp
        refine hK.out _ _ ⟨fun _=>HSK.out _ BUx,?_⟩
        clear hK K
        try simp only [Act.put,qA,qZ,qS]
        have hbx:=HP1.out.box.later BUx
        have c0:=hbx.cell 0 rfl
        have c1:=hbx.cell 1 rfl
        have fz:=fun i=>hbx.frozen i
        have HF:=HP1.out.on (fa:=fa2) (fc:=fc2) HE0.out Q1.out HBD.out.1 HBD.out.2.1 BUx ⟨by simpa [HEL.out] using hRx,zbv HEB2.out HBY1.out,by have:=HEB.out.2.2;have:=HEL.out;simp;omega,HEB3.out⟩
        clear hRx hBx hbx
        refine zah (i:=10) (o:=⟨none,.store 74 (.tmp 8) (.tmp 48),0,_,#[⟨9,.data⟩,⟨8,.chain⟩,⟨0,.phase⟩,⟨1,.phase⟩,⟨2,.phase⟩,⟨3,.phase⟩,⟨4,.phase⟩,⟨5,.phase⟩,⟨6,.phase⟩,⟨7,.phase⟩,⟨8,.phase⟩,⟨9,.phase⟩],none⟩) (by kernel_rfl) rfl (fun K hK=>?_)
        rw [if_pos (by rfl)]
        go_simp
        refine hK.out _ _ ⟨fun h=>absurd rfl h,?_⟩
        clear hK K
        try simp only [Act.put,qA,qZ,qS]
        refine zax (by kernel_rfl) ?_ _
        try simp only [Act.put,qA,qZ,qS]
        clear c0 c1 fz
        go_wp2_with fail
        go_roundw
        case rel=>exact ⟨i+1,dn,va,vc,oE,_,by rw [HM.out],rfl,by go_num,by omega,(by have h:=HF;rw [show (e.bs++[b]).length=el+1 by simp [HEL.out]] at h;exact h)⟩
        case measure=>simp [intOf];omega
    · have Q1:Hid (¬Pl.pend e.pc=x):=by show ¬e.f+(e.bs.length:Int)=x;rw [HEL.out];exact q1
      have g1:(e.f+(el:Int)==x)=false:=by simpa using q1
      have g1':decide (e.f+(el:Int)=x)=false:=by simpa using q1
      clear q1
      by_cases q2:e.f=fr.f+(fl:Int)
      · have Q2:Hid (e.f=Pl.pend fr.pc):=by show e.f=fr.f+(fr.bs.length:Int);rw [HFL.out];exact q2
        have g2:(e.f==fr.f+(fl:Int))=true:=by simpa using q2
        have hsm:fl+el≤4294967296:=by omega
        obtain ⟨fa,fc,w4,hr4,hR4,_,hg4⟩:=zhj W1 w.heap.size fr.a fl fr.c fr.bs e.a el e.c e.bs 22 (by have:=HP1.out.fm.row;rwa [HFL.out] at this) HEB.out.1 HEL.out HEB.out.2.1 (by omega) (Nat.le_trans HP1.out.bel.size (Nat.le_refl _))
        have HRN:Hid ((Builtin.append_ #[22,22] 22 #[.slice fr.a fl fr.c,.slice e.a el e.c]).run Try.prog W1=.ok (.slice fa (fl+el) fc) w4):=hr4
        have HF:=HP1.out.join (fa:=fa) (fc:=fc) HE0.out Q1.out Q2.out HBD.out.2.2 (by rw [HFL.out,HEL.out];exact hR4) HEB2.out (by rw [List.length_append,HFL.out,HEL.out];omega) (by rw [HFL.out];exact hg4)
        have hbx4:Box w4 (w.heap.size+1) 74 [.int .i64 fr.f,.slice fr.a fl fr.c]:=by
         have hq:=HP1.out.box
         rw [HFL.out] at hq
         exact (hg4.block _ hq.lt (fun e=>by
          obtain ⟨_,_,_,cur,h2⟩:=zaj HP1.out.fm.row (za6 (L:=fr.bs.length) (vc:=fr.c) (by rw [HFL.out];exact e.symm))
          exact absurd (za2 hq h2) (by decide))).trans hq
        have c1:=hbx4.cell 1 rfl
        have cf:=fun i=>hbx4.frozen i
        clear hr4 hR4 hg4 q2 hbx4
        go_wp2_with (at_builtin;refine Lib.wpList_append_run W1 rfl (.tmp 60) (.tmp 62) 22 22 rfl (.slice fr.a fl fr.c) (.slice e.a el e.c) rfl rfl (.slice fa (fl+el) fc) w4 HRN.out ?_)
        go_roundw
        case rel=>exact ⟨i+1,dn,va,vc,oE,⟨fr.f,fa,fc,fr.bs++e.bs⟩,by rw [HM.out],rfl,by go_num,by omega,by rw [HFL.out,HEL.out] at HF;exact HF⟩
        case measure=>simp [intOf];omega
      · have Q2:Hid (¬e.f=Pl.pend fr.pc):=by show ¬e.f=fr.f+(fr.bs.length:Int);rw [HFL.out];exact q2
        have g2:(e.f==fr.f+(fl:Int))=false:=by simpa using q2
        have g2':decide (e.f=fr.f+(fl:Int))=false:=by simpa using q2
        clear q2
        by_cases q3:x<e.f
        · have Q3:Hid (x<e.f):=q3
          have g3:decide (x<e.f)=true:=by simpa using q3
          clear q3
          cases dn with
          | false =>
           obtain ⟨va4,vc4,w4,hr4,hR4,hg4,_⟩:=zdp (W1.alloc (.cells #[.int .i64 fr.f,.slice fr.a fl fr.c,.int .i64 e.f,.slice e.a el e.c] 74)) (w.heap.size+2) va m vc oE (by have h0:=HP1.out.row;rw [HM.out] at h0;exact h0.alloc _) (by have:=HP1.out.row.max;have:=HP1.out.bel.size;have:=HP1.out.box.lt;simp;omega) (some ⟨W1.heap.size,0,none⟩) 2 2 [fr,e] 23 (by have:=ents_two W1 fr e;rwa [HFL.out,HEL.out] at this) rfl (fun h=>by cases h) (by have:=HP1.out.len;have:=HM.out;omega)
           have HRN:Hid ((Builtin.append_ #[23,23] 23 #[.slice va m vc,.slice (some ⟨W1.heap.size,0,none⟩) 2 2]).run Try.prog (W1.alloc (.cells #[.int .i64 fr.f,.slice fr.a fl fr.c,.int .i64 e.f,.slice e.a el e.c] 74))=.ok (.slice va4 (m+2) vc4) w4):=hr4
           have HF:=(HP1.out.later (zbo W1 (.cells #[.int .i64 fr.f,.slice fr.a fl fr.c,.int .i64 e.f,.slice e.a el e.c] 74))).lay HE0.out Q1.out Q2.out Q3.out (by rw [HM.out];exact hR4) (by rw [HM.out];exact hg4)
           clear hr4 hR4 hg4
           go_wp2_with (at_builtin;refine Lib.wpList_append_run (W1.alloc (.cells #[.int .i64 fr.f,.slice fr.a fl fr.c,.int .i64 e.f,.slice e.a el e.c] 74)) rfl (.tmp 74) (.tmp 77) 23 23 rfl (.slice va m vc) (.slice (some ⟨W1.heap.size,0,none⟩) 2 2) rfl rfl (.slice va4 (m+2) vc4) w4 HRN.out ?_)
           go_roundw
           case rel=>exact ⟨i+1,true,va4,vc4,oE++[fr,e],fr,by simp [HM.out],rfl,by go_num,by omega,HF⟩
           case measure=>simp [intOf];omega
          | true =>
           obtain ⟨va4,vc4,w4,hr4,hR4,hg4,_⟩:=zdp (W1.alloc (.cells #[.int .i64 e.f,.slice e.a el e.c] 74)) (w.heap.size+2) va m vc oE (by have h0:=HP1.out.row;rw [HM.out] at h0;exact h0.alloc _) (by have:=HP1.out.row.max;have:=HP1.out.bel.size;have:=HP1.out.box.lt;simp;omega) (some ⟨W1.heap.size,0,none⟩) 1 1 [e] 23 (by have:=zeg W1 e;rwa [HEL.out] at this) rfl (fun h=>by cases h) (by have:=HP1.out.len;have:=HM.out;omega)
           have HRN:Hid ((Builtin.append_ #[23,23] 23 #[.slice va m vc,.slice (some ⟨W1.heap.size,0,none⟩) 1 1]).run Try.prog (W1.alloc (.cells #[.int .i64 e.f,.slice e.a el e.c] 74))=.ok (.slice va4 (m+1) vc4) w4):=hr4
           have HF:=(HP1.out.later (zbo W1 (.cells #[.int .i64 e.f,.slice e.a el e.c] 74))).keep HE0.out Q1.out Q2.out (fun h=>by cases h.2) (by rw [HM.out];exact hR4) (by rw [HM.out];exact hg4)
           clear hr4 hR4 hg4
           go_wp2_with (at_builtin;refine Lib.wpList_append_run (W1.alloc (.cells #[.int .i64 e.f,.slice e.a el e.c] 74)) rfl (.tmp 26) (.tmp 28) 23 23 rfl (.slice va m vc) (.slice (some ⟨W1.heap.size,0,none⟩) 1 1) rfl rfl (.slice va4 (m+1) vc4) w4 HRN.out ?_)
           go_roundw
           case rel=>exact ⟨i+1,true,va4,vc4,oE++[e],fr,by simp [HM.out],rfl,by go_num,by omega,HF⟩
           case measure=>simp [intOf];omega
        · have Q3:Hid (¬x<e.f):=q3
          have g3:decide (x<e.f)=false:=by simpa using q3
          clear q3
          obtain ⟨va4,vc4,w4,hr4,hR4,hg4,_⟩:=zdp (W1.alloc (.cells #[.int .i64 e.f,.slice e.a el e.c] 74)) (w.heap.size+2) va m vc oE (by have h0:=HP1.out.row;rw [HM.out] at h0;exact h0.alloc _) (by have:=HP1.out.row.max;have:=HP1.out.bel.size;have:=HP1.out.box.lt;simp;omega) (some ⟨W1.heap.size,0,none⟩) 1 1 [e] 23 (by have:=zeg W1 e;rwa [HEL.out] at this) rfl (fun h=>by cases h) (by have:=HP1.out.len;have:=HM.out;omega)
          have HRN:Hid ((Builtin.append_ #[23,23] 23 #[.slice va m vc,.slice (some ⟨W1.heap.size,0,none⟩) 1 1]).run Try.prog (W1.alloc (.cells #[.int .i64 e.f,.slice e.a el e.c] 74))=.ok (.slice va4 (m+1) vc4) w4):=hr4
          have HF:=(HP1.out.later (zbo W1 (.cells #[.int .i64 e.f,.slice e.a el e.c] 74))).keep HE0.out Q1.out Q2.out (fun h=>Q3.out h.1) (by rw [HM.out];exact hR4) (by rw [HM.out];exact hg4)
          clear hr4 hR4 hg4
          go_wp2_with (at_builtin;refine Lib.wpList_append_run (W1.alloc (.cells #[.int .i64 e.f,.slice e.a el e.c] 74)) rfl (.tmp 26) (.tmp 28) 23 23 rfl (.slice va m vc) (.slice (some ⟨W1.heap.size,0,none⟩) 1 1) rfl rfl (.slice va4 (m+1) vc4) w4 HRN.out ?_)
          go_roundw
          case rel=>exact ⟨i+1,dn,va4,vc4,oE++[e],fr,by simp [HM.out],rfl,by go_num,by omega,HF⟩
          case measure=>simp [intOf];omega
  · obtain rfl:i=n:=by omega
    have hnil:es.drop i=[]:=by rw [← HS.out.2.1];exact List.drop_length
    have hall:es.take i=es:=by rw [← HS.out.2.1];exact List.take_length
    cases dn with
    | true =>
     have HFIN:Hid (∃ l1 l2,oE=l1++fr::l2∧(l1++l2).Sublist es∧oE.map En.pc=Pl.putL (es.map En.pc) x b):=by
      obtain ⟨l1,l2,e1,e2⟩:=HP.out.s1 rfl
      rw [hall] at e2
      have hgo:=HP.out.go
      rw [hnil,List.map_nil,Pl.putGo,if_pos rfl] at hgo
      exact ⟨l1,l2,e1,e2,hgo⟩
     go_wp2_with fail
     go_ret
     obtain ⟨l1,l2,e1,e2,e3⟩:=HFIN.out
     exact ⟨va,vc,oE,fr,l1,l2,(by rw [HM.out];rfl),e1,e2,e3,HP.out.row.mono (by omega),HP.out.fm,HP.out.bel⟩
    | false =>
     have hq:=HP.out.box
     rw [HFL.out] at hq
     have f0:=hq.cell 0 rfl
     have f1:=hq.cell 1 rfl
     have hs:=HP.out.box.lt
     obtain ⟨va4,vc4,w4,hr4,hR4,hg4,_⟩:=zdp (wr.alloc (.cells #[.int .i64 fr.f,.slice fr.a fl fr.c] 74)) (w.heap.size+2) va m vc oE (by have h0:=HP.out.row;rw [HM.out] at h0;exact h0.alloc _) (by simp;omega) (some ⟨wr.heap.size,0,none⟩) 1 1 [fr] 23 (by have:=zeg wr fr;rwa [HFL.out] at this) rfl (fun h=>by cases h) (by have:=HP.out.len;have:=HM.out;omega)
     have HRN:Hid ((Builtin.append_ #[23,23] 23 #[.slice va m vc,.slice (some ⟨wr.heap.size,0,none⟩) 1 1]).run Try.prog (wr.alloc (.cells #[.int .i64 fr.f,.slice fr.a fl fr.c] 74))=.ok (.slice va4 (m+1) vc4) w4):=hr4
     have HFIN:Hid (oE.Sublist es∧(oE++[fr]).map En.pc=Pl.putL (es.map En.pc) x b∧RowE w4 w.heap.size va4 (m+1) vc4 (oE++[fr])∧fr.mine w4 w.heap.size∧Below w.heap.size w w4):=by
      have e2:=HP.out.s0 rfl
      rw [hall] at e2
      have hgo:=HP.out.go
      rw [hnil,List.map_nil,Pl.putGo,if_neg (by simp)] at hgo
      obtain ⟨_,g2,g3⟩:=(HP.out.later (zbo wr (.cells #[.int .i64 fr.f,.slice fr.a fl fr.c] 74))).grow (by rw [HM.out];exact hg4)
      exact ⟨e2,by rw [List.map_append];exact hgo,hR4.mono (by omega),g2,g3⟩
     clear hr4 hR4 hg4 hq
     go_wp2_with (at_builtin;refine Lib.wpList_append_run (wr.alloc (.cells #[.int .i64 fr.f,.slice fr.a fl fr.c] 74)) rfl (.tmp 81) (.tmp 83) 23 23 rfl (.slice va m vc) (.slice (some ⟨wr.heap.size,0,none⟩) 1 1) rfl rfl (.slice va4 (m+1) vc4) w4 HRN.out ?_)
     go_ret
     obtain ⟨e2,e3,e4,e5,e6⟩:=HFIN.out
     exact ⟨va4,vc4,oE++[fr],fr,oE,[],by simp [HM.out],rfl,by simpa using e2,e3,by simpa [HM.out] using e4,e5,e6⟩
end Go.Proofs.Ytkigcdmlkmcdcaa
