/- The document's Copy. -/
import Derived.Test.YtkigcdmlkmcdcaaQZ
import Derived.Test.YtkigcdmlkmcdcaaQMRefCpP
import Derived.Test.YtkigcdmlkmcdcaaQMSpansW
import Derived.Test.YtkigcdmlkmcdcaaQMInvO
namespace Go.Proofs.Ytkigcdmlkmcdcaa
open Go.ChangeShapes Go.WideShapes Go.ChangeAt Go.RowKit
set_option linter.unusedVariables false
set_option linter.unusedSimpArgs false
theorem boxes3r (w:World) (cs:List Value) {W0:World} (hW0:((w.alloc (.cells cs.toArray 27)).alloc (.cells zR.toArray 27)).alloc (.cells cs.toArray 27)=W0) :
 Box W0 w.heap.size 27 cs∧Box W0 (w.heap.size+1) 27 zR∧Box W0 (w.heap.size+1+1) 27 cs∧W0.heap.size=w.heap.size+3∧Below w.heap.size w W0:=by
 subst hW0
 refine ⟨Box.alloc (Box.alloc (Box.new w 27 cs) _) _,?_,?_,by simp,zaa (zaa (zaa (Below.refl _ _) _) _) _⟩
 · have:=(Box.new (w.alloc (.cells cs.toArray 27)) 27 zR).alloc (.cells cs.toArray 27);rwa [World.size_alloc] at this
 · have:=Box.new ((w.alloc (.cells cs.toArray 27)).alloc (.cells zR.toArray 27)) 27 cs;rwa [World.size_alloc,World.size_alloc] at this
theorem list_appT0 {w:World} {ops:Array Oper} {rest:List Oper} {o:Oper} {a:Act} {Q:Exit→Act→World→Prop} (hgd:o.guard=none) (hty:o.type=25) (s x:Operand)
 (ho:o.op=.call { callee:=.builtin .append,args:=#[s,x],argTypes:=#[25,25]})
 (B:Nat) (va:Option Addr) (vc:Nat) (A:Option Addr) (m c:Nat) (l:List Tm) (hs:a.eval s=.slice va 0 vc) (hx:a.eval x=.slice A m c)
 (hO:RowT w B va 0 vc []) (hB:B≤w.heap.size) (hT:SpAt w A c l) (hl:l.length=m)
 (h:∀ va' vc' w',RowT w' B va' m vc' l→Below B w w'→w.grownBy w' (Value.slice va 0 vc).ownBlock→wpList Try.prog ops Q rest (a.put o.dst (.slice va' m vc')) w'):wpList Try.prog ops Q (o::rest) a w:=by
 refine wpList_plain hgd fun K hK=>?_
 subst hl
 have hr:=hT.reach
 obtain ⟨va',vc',w',hrn,h1,h2⟩:=zfz w B va 0 vc [] hO hB A c l hT.tims hT.nil (by omega)
 unfold Oper.wp execOp
 simp only [ho,resolve,invoke,builtin,Sem.run_bind,Sem.run_pure,Result.andThen_ok,List.map_toArray,List.map_cons,List.map_nil,hs,hx,hty,hrn]
 rw [Nat.zero_add] at h1 ⊢
 exact hK _ _ (h va' vc' w' (by simpa using h1) (za4 (Below.refl _ w) hB hO h2) h2)
theorem wp_cpyR {id:Nat} {Q:Exit→Act→World→Prop} {a:Act} {w:World} {o1 o2:Oper} (g1:o1.guard=none) (g2:o2.guard=none) {p q:Operand} {t:Tmp} (h1:o1.op=.load 27 p) (d1:o1.dst=some t) (h2:o2.op=.store 27 q (.tmp t)) (d2:o2.dst=none)
 (r:Pl.Rv) (k:Hd) {gs gd:Nat} (hp:a.eval p=.pointer (some ⟨gs,0,none⟩)) (hq:(a.put (some t) (.agg #[.int .i64 r.s.n,.slice k.ua r.s.u.length k.uc,.slice k.la k.es.length k.lc,.int .i64 r.cap,.int .i64 r.shift,.int .i64 r.edge,.int .u32 r.recent,.bool r.stamps,.bool r.sacks,.int .i64 r.fin,.bool r.dn,.slice k.fa r.first.length k.fc,.int .u32 r.irs,.int .u32 r.own,.bool r.stamp])).eval q=.pointer (some ⟨gd,0,none⟩)) (ht:(a.put (some t) (.agg #[.int .i64 r.s.n,.slice k.ua r.s.u.length k.uc,.slice k.la k.es.length k.lc,.int .i64 r.cap,.int .i64 r.shift,.int .i64 r.edge,.int .u32 r.recent,.bool r.stamps,.bool r.sacks,.int .i64 r.fin,.bool r.dn,.slice k.fa r.first.length k.fc,.int .u32 r.irs,.int .u32 r.own,.bool r.stamp])).eval (.tmp t)=.agg #[.int .i64 r.s.n,.slice k.ua r.s.u.length k.uc,.slice k.la k.es.length k.lc,.int .i64 r.cap,.int .i64 r.shift,.int .i64 r.edge,.int .u32 r.recent,.bool r.stamps,.bool r.sacks,.int .i64 r.fin,.bool r.dn,.slice k.fa r.first.length k.fc,.int .u32 r.irs,.int .u32 r.own,.bool r.stamp])
 (hs:Box w gs 27 (rvL r k)) {cs:List Value} (hl:cs.length=15) (hd:Box w gd 27 cs) (h:∀ X,setAll w gd 0 (rvL r k)=X→Q .normal (a.put (some t) (.agg #[.int .i64 r.s.n,.slice k.ua r.s.u.length k.uc,.slice k.la k.es.length k.lc,.int .i64 r.cap,.int .i64 r.shift,.int .i64 r.edge,.int .u32 r.recent,.bool r.stamps,.bool r.sacks,.int .i64 r.fin,.bool r.dn,.slice k.fa r.first.length k.fc,.int .u32 r.irs,.int .u32 r.own,.bool r.stamp])) X):(Code.region id #[o1,o2] false).wp Try.prog Q a w:=by
 refine wp_region_list (ops:=#[o1,o2]) ?_
 refine wpList_plain g1 fun K hK=>?_
 unfold Oper.wp
 rw [run_loadR h1 hp r k w hs,Oper.upon_value,d1]
 refine hK _ _ ?_
 refine wpList_plain g2 fun K' hK'=>?_
 have:=zbx (ops:=#[o1,o2]) (o:=o2) (a:=a.put (some t) (.agg #[.int .i64 r.s.n,.slice k.ua r.s.u.length k.uc,.slice k.la k.es.length k.lc,.int .i64 r.cap,.int .i64 r.shift,.int .i64 r.edge,.int .u32 r.recent,.bool r.stamps,.bool r.sacks,.int .i64 r.fin,.bool r.dn,.slice k.fa r.first.length k.fc,.int .u32 r.irs,.int .u32 r.own,.bool r.stamp])) (w:=w) (K:=K') (Q:=Q) (E:=False) g2 q (.tmp t) h2 r k gd hl hq ht hd rfl (fun v=>hK' _ _ (by rw [d2];exact h _ rfl))
 rwa [if_pos (by simp [Region.wanted,g2])] at this
set_option maxRecDepth 100000 in
set_option maxHeartbeats 8000000 in
theorem zct (r:Pl.Rv) (h:Hd) (w:World) (H:RvAt w r h) :
 Calls Try.prog 36 #[.agg #[.int .i64 r.s.n,.slice h.ua r.s.u.length h.uc,.slice h.la h.es.length h.lc,.int .i64 r.cap,.int .i64 r.shift,.int .i64 r.edge,.int .u32 r.recent,.bool r.stamps,.bool r.sacks,.int .i64 r.fin,.bool r.dn,.slice h.fa r.first.length h.fc,.int .u32 r.irs,.int .u32 r.own,.bool r.stamp]] w fun e w'=>∃ k:Hd,e=.returned (.agg #[.int .i64 r.s.n,.slice k.ua r.s.u.length k.uc,.slice k.la k.es.length k.lc,.int .i64 r.cap,.int .i64 r.shift,.int .i64 r.edge,.int .u32 r.recent,.bool r.stamps,.bool r.sacks,.int .i64 r.fin,.bool r.dn,.slice k.fa r.first.length k.fc,.int .u32 r.irs,.int .u32 r.own,.bool r.stamp])∧RvOwn w' w.heap.size r k∧Below w.heap.size w w':=by
 obtain ⟨ua,uc,la,lc,es,fa,fc⟩:=h
 have HH:Hid (RvAt w r ⟨ua,uc,la,lc,es,fa,fc⟩):=H
 have hlr:es.length*32≤140737488351232:=H.late.reach
 have hfr:=H.fst.reach
 have hur:=H.un.1.1
 dsimp only
 obtain ⟨W0,hW0⟩:∃ W0,((w.alloc (.cells #[.int .i64 r.s.n,.slice ua r.s.u.length uc,.slice la es.length lc,.int .i64 r.cap,.int .i64 r.shift,.int .i64 r.edge,.int .u32 r.recent,.bool r.stamps,.bool r.sacks,.int .i64 r.fin,.bool r.dn,.slice fa r.first.length fc,.int .u32 r.irs,.int .u32 r.own,.bool r.stamp] 27)).alloc (.cells zR.toArray 27)).alloc (.cells #[.int .i64 r.s.n,.slice ua r.s.u.length uc,.slice la es.length lc,.int .i64 r.cap,.int .i64 r.shift,.int .i64 r.edge,.int .u32 r.recent,.bool r.stamps,.bool r.sacks,.int .i64 r.fin,.bool r.dn,.slice fa r.first.length fc,.int .u32 r.irs,.int .u32 r.own,.bool r.stamp] 27)=W0:=⟨_,rfl⟩
 obtain ⟨hX,hZ,hY,hs0,b0⟩:=boxes3r w [.int .i64 r.s.n,.slice ua r.s.u.length uc,.slice la es.length lc,.int .i64 r.cap,.int .i64 r.shift,.int .i64 r.edge,.int .u32 r.recent,.bool r.stamps,.bool r.sacks,.int .i64 r.fin,.bool r.dn,.slice fa r.first.length fc,.int .u32 r.irs,.int .u32 r.own,.bool r.stamp] hW0
 have hun:=(H.un.later b0).1
 obtain ⟨n,hn⟩:∃ n,es.length=n:=⟨_,rfl⟩
 obtain ⟨m,hm⟩:∃ m,r.first.length=m:=⟨_,rfl⟩
 obtain ⟨u,hu⟩:∃ u,r.s.u.length=u:=⟨_,rfl⟩
 have HN:Hid (es.length=n∧r.first.length=m∧r.s.u.length=u):=⟨hn,hm,hu⟩
 rw [hn] at hlr hW0 hX hY
 rw [hm] at hfr hW0 hX hY
 rw [hu] at hur hW0 hX hY
 rw [hn,hm,hu]
 have HB:Hid (Box W0 w.heap.size 27 [.int .i64 r.s.n,.slice ua u uc,.slice la n lc,.int .i64 r.cap,.int .i64 r.shift,.int .i64 r.edge,.int .u32 r.recent,.bool r.stamps,.bool r.sacks,.int .i64 r.fin,.bool r.dn,.slice fa m fc,.int .u32 r.irs,.int .u32 r.own,.bool r.stamp]∧Box W0 (w.heap.size+1) 27 zR∧Box W0 (w.heap.size+1+1) 27 [.int .i64 r.s.n,.slice ua u uc,.slice la n lc,.int .i64 r.cap,.int .i64 r.shift,.int .i64 r.edge,.int .u32 r.recent,.bool r.stamps,.bool r.sacks,.int .i64 r.fin,.bool r.dn,.slice fa m fc,.int .u32 r.irs,.int .u32 r.own,.bool r.stamp]∧W0.heap.size=w.heap.size+3∧Below w.heap.size w W0∧zak W0 ua r.s.u):=⟨hX,hZ,hY,hs0,b0,hun⟩
 clear H hX hZ hY hs0 b0 hun hn hm hu
 go_enter Try.func36,Try.ntmps36
 go_upto_region 2 with fail
 clear hW0
 obtain ⟨X0,hX0⟩:∃ X0,W0.alloc (.cells #[] 5)=X0:=⟨_,rfl⟩
 have HX0:Hid (Below W0.heap.size W0 X0∧Row X0 (w.heap.size+3) (some ⟨W0.heap.size,0,none⟩) 0 0 []∧X0.heap.size=W0.heap.size+1):=by
  rw [← hX0]
  exact ⟨zaa (Below.refl _ _) _,zc6 W0 _ (by have:=HB.out.2.2.2.1;omega),by simp⟩
 have x1:X0.cell? ⟨w.heap.size,1,none⟩=some (.slice ua u uc):=(HB.out.1.later HX0.out.1).cell 1 rfl
 go_upto_region 4 with (at_builtin;refine list_app0 rfl (.tmp 6) (.tmp 8) rfl (w.heap.size+3) (some ⟨W0.heap.size,0,none⟩) 0 ua u uc r.s.u rfl rfl HX0.out.2.1 (HB.out.2.2.2.2.2.later HX0.out.1) HN.out.2.2 HH.out.un.2.1 (by omega) (by have:=HB.out.2.2.2.1;have:=HX0.out.2.2;omega) ?_;intro va1 vc1 w1 hR1 hB1;have hY1:=(HB.out.2.2.1.later HX0.out.1).below hB1 (by omega);have y1:=hY1.cell 1 rfl;have y2:=hY1.cell 2 rfl;have f1:=hY1.frozen 1;have f2:=hY1.frozen 2)
 obtain ⟨V0,hV0⟩:∃ V0,(w1.setCell ⟨w.heap.size+1+1,1,none⟩ (.slice va1 u vc1)).setCell ⟨w.heap.size+1+1,2,none⟩ (.slice none 0 0)=V0:=⟨_,rfl⟩
 have HST:Hid (CopTo w V0 r ⟨ua,uc,la,lc,es,fa,fc⟩ ⟨va1,vc1,none,0,[],fa,fc⟩ 0):=by
  have hbW:Below w.heap.size w w1:=(Below.on HB.out.2.2.2.2.1 HX0.out.1).trans (hB1.mono (by omega))
  have hmine:(⟨0,va1,vc1,r.s.u⟩:En).mine w1 (w.heap.size+3):=by
   refine ⟨?_,HH.out.un.1.2.1,HH.out.un.1.1,by unfold I64;simp only;omega⟩
   show Row w1 _ va1 r.s.u.length vc1 r.s.u
   rw [HN.out.2.2];exact hR1
  have hX1:=(HB.out.1.later HX0.out.1).below hB1 (by omega)
  have hZ1:=(HB.out.2.1.later HX0.out.1).below hB1 (by omega)
  have hfam:Fam w1 (w.heap.size+3) [⟨0,va1,vc1,r.s.u⟩]:=⟨fun x hx=>by simp at hx;rw [hx];exact hmine,by simp [zf0]⟩
  have hY2:=hY1.set 1 (.slice va1 u vc1)
  rw [← hV0]
  refine ⟨World.ownsRow_nil _ _ _ _,by simp,(hfam.beside hY1 (by decide) 1 _).beside hY2 (by decide) 2 _,⟨rfl,rfl⟩,?_,(hZ1.aside _ _ _ (by omega)).aside _ _ _ (by omega),?_,zar (zar hbW _ _ _ (by omega)) _ _ _ (by omega),?_⟩
  · simp only [rvL,HN.out.1,HN.out.2.1,HN.out.2.2]
    exact (hX1.aside _ _ _ (by omega)).aside _ _ _ (by omega)
  · simp only [rvL,HN.out.1,HN.out.2.1,HN.out.2.2]
    exact hY2.set 2 _
  · have h1:=hB1.size
    have h2:=HX0.out.2.2
    have h3:=HB.out.2.2.2.1
    have:((w1.setCell ⟨w.heap.size+1+1,1,none⟩ (.slice va1 u vc1)).setCell ⟨w.heap.size+1+1,2,none⟩ (.slice none 0 0)).heap.size=w1.heap.size:=by simp [World.setCell]
    omega
 rw [hV0]
 clear hV0 y1 y2 f1 f2 hY1 hR1 hB1 x1 hX0 HX0 HB
 go_wp2_with fail
 go_loopw [4] (fun vi wr=>∃ (i:Nat) (k:Hd),vi=.int .i64 i∧i≤n∧Hid (CopTo w wr r ⟨ua,uc,la,lc,es,fa,fc⟩ k i)) (fun vi _=>n-(intOf vi).toNat)
 case atStart=>exact ⟨0,_,rfl,Nat.zero_le _,HST.out⟩
 case round =>
  obtain ⟨i,k,rfl,hin,HL⟩:=hrel
  obtain ⟨ka,kc,va,vc,fs,ga,gc⟩:=k
  have p2:wr.cell? ⟨w.heap.size,2,none⟩=some (.slice la n lc):=by have:=HL.out.b1.cell 2 rfl;simp only [HN.out.1] at this;exact this
  clear HST
  by_cases hlt:i<n
  · have hlt':(i:Int)<(n:Int):=by omega
    obtain ⟨x,hx⟩:∃ x,es[i]? = some x:=⟨_,List.getElem?_eq_getElem (by rw [HN.out.1];exact hlt)⟩
    obtain ⟨b,o,ka',e1,e2⟩:=HH.out.late.ents i x hx
    subst ka'
    have hbw:b<w.heap.size:=zac e1
    obtain ⟨S,hS⟩:∃ S:World→Prop,S=fun W=>W.cell? ⟨w.heap.size,2,none⟩=some (.slice (some ⟨b,o,none⟩) n lc)∧W.cell? ⟨w.heap.size+1+1,2,none⟩=some (.slice va i vc)∧W.cell? ⟨b,o+i*2,none⟩=some (.int .i64 x.f)∧W.cell? ⟨b,o+i*2+1,none⟩=some (.slice x.a x.bs.length x.c):=⟨_,rfl⟩
    have hfl:fs.length=i:=HL.out.row.len
    have HSK:Hid (∀ W,Below (w.heap.size+3) wr W→S W):=fun W hW=>by
     have hb0:=HL.out.bel.trans (hW.mono (by omega))
     rw [hS]
     refine ⟨((HL.out.b1.below hW (by omega)).cell 2 rfl).trans (by simp only [HN.out.1]),((HL.out.b3.below hW (by omega)).cell 2 rfl).trans (by simp only [hfl]),(hb0.cell (p:=⟨_,_,none⟩) hbw).trans e1,(hb0.cell (p:=⟨_,_,none⟩) hbw).trans e2⟩
    have HX:Hid (es[i]? = some x∧x.ok w∧fs.length=i):=⟨hx,HH.out.late.ok x (List.mem_of_getElem? hx),hfl⟩
    clear e1 e2 hx hbw hfl
    go_wp2_with fail
    as_aux_lemma =>
     obtain ⟨y0,y1,y2,y3,y4,y5,y6,y7,y9,y10,y11,y12,y13,y14⟩:(∀ {ps} (ev:EV),ev (.tmp 3)=.pointer (some ⟨w.heap.size+1+1,0,none⟩)→Yl Try.prog S ev ⟨some 19,.fieldAddr 27 (.tmp 3) 2,0,ps,#[],none⟩ ((.pointer (some ⟨w.heap.size+1+1,2,none⟩))))∧(∀ {ps} (ev:EV),ev (.tmp 19)=.pointer (some ⟨w.heap.size+1+1,2,none⟩)→Yl Try.prog S ev ⟨some 20,.load 23 (.tmp 19),23,ps,#[⟨0,.data⟩],none⟩ ((.slice va i vc)))∧(∀ {ps} (ev:EV),ev (.tmp 1)=.pointer (some ⟨w.heap.size,0,none⟩)→Yl Try.prog S ev ⟨some 21,.fieldAddr 27 (.tmp 1) 2,0,ps,#[],none⟩ ((.pointer (some ⟨w.heap.size,2,none⟩))))∧(∀ {ps} (ev:EV),ev (.tmp 21)=.pointer (some ⟨w.heap.size,2,none⟩)→Yl Try.prog S ev ⟨some 22,.load 23 (.tmp 21),23,ps,#[⟨2,.data⟩],none⟩ ((.slice (some ⟨b,o,none⟩) n lc)))∧(∀ {ps} (ev:EV),ev (.tmp 4)=.int .i64 (i:Int)→Yl Try.prog S ev ⟨some 23,.move (.tmp 4),3,ps,#[],none⟩ ((.int .i64 (i:Int))))∧(∀ {ps} (ev:EV),ev (.tmp 22)=.slice (some ⟨b,o,none⟩) n lc→ev (.tmp 23)=.int .i64 (i:Int)→Yl Try.prog S ev ⟨some 24,.indexAddr 23 (.tmp 22) (.tmp 23),0,ps,#[⟨3,.data⟩,⟨4,.data⟩],none⟩ ((.pointer (some ⟨b,o+i*2,none⟩))))∧(∀ {ps} (ev:EV),ev (.tmp 24)=.pointer (some ⟨b,o+i*2,none⟩)→Yl Try.prog S ev ⟨some 25,.fieldAddr 74 (.tmp 24) 0,0,ps,#[⟨5,.data⟩],none⟩ ((.pointer (some ⟨b,o+i*2,none⟩))))∧(∀ {ps} (ev:EV),ev (.tmp 25)=.pointer (some ⟨b,o+i*2,none⟩)→Yl Try.prog S ev ⟨some 26,.load 3 (.tmp 25),3,ps,#[⟨6,.data⟩],none⟩ ((.int .i64 x.f)))∧(∀ {ps} (ev:EV),ev (.tmp 1)=.pointer (some ⟨w.heap.size,0,none⟩)→Yl Try.prog S ev ⟨some 28,.fieldAddr 27 (.tmp 1) 2,0,ps,#[],none⟩ ((.pointer (some ⟨w.heap.size,2,none⟩))))∧(∀ {ps} (ev:EV),ev (.tmp 28)=.pointer (some ⟨w.heap.size,2,none⟩)→Yl Try.prog S ev ⟨some 29,.load 23 (.tmp 28),23,ps,#[⟨9,.data⟩],none⟩ ((.slice (some ⟨b,o,none⟩) n lc)))∧(∀ {ps} (ev:EV),ev (.tmp 4)=.int .i64 (i:Int)→Yl Try.prog S ev ⟨some 30,.move (.tmp 4),3,ps,#[],none⟩ ((.int .i64 (i:Int))))∧(∀ {ps} (ev:EV),ev (.tmp 29)=.slice (some ⟨b,o,none⟩) n lc→ev (.tmp 30)=.int .i64 (i:Int)→Yl Try.prog S ev ⟨some 31,.indexAddr 23 (.tmp 29) (.tmp 30),0,ps,#[⟨10,.data⟩,⟨11,.data⟩],none⟩ ((.pointer (some ⟨b,o+i*2,none⟩))))∧(∀ {ps} (ev:EV),ev (.tmp 31)=.pointer (some ⟨b,o+i*2,none⟩)→Yl Try.prog S ev ⟨some 32,.fieldAddr 74 (.tmp 31) 1,0,ps,#[⟨12,.data⟩],none⟩ ((.pointer (some ⟨b,o+i*2+1,none⟩))))∧(∀ {ps} (ev:EV),ev (.tmp 32)=.pointer (some ⟨b,o+i*2+1,none⟩)→Yl Try.prog S ev ⟨some 33,.load 22 (.tmp 32),22,ps,#[⟨13,.data⟩],none⟩ ((.slice x.a x.bs.length x.c))):=by
      refine ⟨?_,?_,?_,?_,?_,?_,?_,?_,?_,?_,?_,?_,?_,?_⟩<;>(intros;intro W hSw;rw [hS] at hSw;(try dsimp only at hSw);go_simp<;>with_reducible rfl)
     refine zaq S 20 (by kernel_rfl) (HSK.out _ (Below.drew (Below.refl _ _))) (fun hHeld=>?_)
     refine zk 0 (y0 _ rfl) ?_
     try simp only [Act.put,qA,qZ,qS]
     refine zk 1 (y1 _ rfl) ?_
     try simp only [Act.put,qA,qZ,qS]
     refine zk 2 (y2 _ rfl) ?_
     try simp only [Act.put,qA,qZ,qS]
     refine zk 3 (y3 _ rfl) ?_
     try simp only [Act.put,qA,qZ,qS]
     refine zk 4 (y4 _ rfl) ?_
     try simp only [Act.put,qA,qZ,qS]
     refine zk 5 (y5 _ rfl rfl) ?_
     try simp only [Act.put,qA,qZ,qS]
     refine zk 6 (y6 _ rfl) ?_
     try simp only [Act.put,qA,qZ,qS]
     refine zk 7 (y7 _ rfl) ?_
     try simp only [Act.put,qA,qZ,qS]
     refine zk 9 (y9 _ rfl) ?_
     try simp only [Act.put,qA,qZ,qS]
     refine zk 10 (y10 _ rfl) ?_
     try simp only [Act.put,qA,qZ,qS]
     refine zk 11 (y11 _ rfl) ?_
     try simp only [Act.put,qA,qZ,qS]
     refine zk 12 (y12 _ rfl rfl) ?_
     try simp only [Act.put,qA,qZ,qS]
     refine zk 13 (y13 _ rfl) ?_
     try simp only [Act.put,qA,qZ,qS]
     refine zk 14 (y14 _ rfl) ?_
     try simp only [Act.put,qA,qZ,qS]
     refine zah (i:=8) (o:=⟨some 27,.buildSlice 22 0 #[],22,_,#[],none⟩) (by kernel_rfl) rfl (fun K hK=>?_)
     rw [if_pos (by rfl)]
     go_simp
     obtain ⟨X6,hX6⟩:∃ X6,(wr.alloc (.cells #[] 5)).drew=X6:=⟨_,rfl⟩
     have b6:Below wr.heap.size wr X6:=by rw [← hX6];exact Below.drew (zaa (Below.refl _ _) _)
     have r6:Row X6 wr.heap.size (some ⟨wr.heap.size,0,none⟩) 0 0 []:=by rw [← hX6];exact (zc6 wr wr.heap.size (Nat.le_refl _)).of_heap rfl
     have hsz:=HL.out.sz
     try rw [hX6]
     refine hK.out _ _ ⟨fun _=>HSK.out _ (b6.mono hsz),?_⟩
     clear hK K hHeld hX6
     try simp only [Act.put,qA,qZ,qS]
     have hxl:x.bs.length≤140737488351232:=HX.out.2.1.1.1.1
     refine zah (i:=15) (o:=⟨some 34,.call { callee:=.builtin .append,args:=#[.tmp 27,.tmp 33],argTypes:=#[22,22]},22,_,#[⟨8,.data⟩,⟨14,.data⟩],none⟩) (by kernel_rfl) rfl (fun K hK=>?_)
     refine step_app0 rfl (.tmp 27) (.tmp 33) rfl wr.heap.size (some ⟨wr.heap.size,0,none⟩) 0 x.a x.bs.length x.c x.bs rfl rfl r6 ((HX.out.2.1.1.1.later HL.out.bel).later b6) rfl HX.out.2.1.1.2.1 (by omega) b6.size ?_
     intro va2 vc2 w2 r2 hb2
     have b2:Below wr.heap.size wr w2:=b6.trans hb2
     refine hK.out _ _ ⟨fun _=>HSK.out _ (b2.mono hsz),?_⟩
     clear hK K
     try simp only [Act.put,qA,qZ,qS]
     refine zah (i:=16) (o:=⟨some 35,.build 74 #[(0,.tmp 26),(1,.tmp 34)],74,_,#[⟨7,.data⟩,⟨15,.data⟩],none⟩) (by kernel_rfl) rfl (fun K hK=>?_)
     rw [if_pos (by rfl)]
     go_simp
     refine hK.out _ _ ⟨fun _=>HSK.out _ (b2.mono hsz),?_⟩
     clear hK K
     try simp only [Act.put,qA,qZ,qS]
     refine zah (i:=17) (o:=⟨some 36,.buildSlice 23 1 #[(0,.tmp 35)],23,_,#[⟨16,.data⟩],none⟩) (by kernel_rfl) rfl (fun K hK=>?_)
     rw [if_pos (by rfl)]
     go_simp
     obtain ⟨Y,hY⟩:∃ Y,w2.alloc (.cells #[.int .i64 x.f,.slice va2 x.bs.length vc2] 74)=Y:=⟨_,rfl⟩
     have bY:Below wr.heap.size wr Y:=by rw [← hY];exact b2.alloc b2.size _
     have rY:Row Y wr.heap.size va2 x.bs.length vc2 x.bs:=by rw [← hY];exact World.ownsRow.alloc r2 _
     have eY:za5 Y (some ⟨w2.heap.size,0,none⟩) [⟨x.f,va2,vc2,x.bs⟩]:=by rw [← hY];exact zeg w2 ⟨x.f,va2,vc2,x.bs⟩
     try rw [hY]
     refine hK.out _ _ ⟨fun _=>HSK.out _ (bY.mono hsz),?_⟩
     clear hK K hY
     try simp only [Act.put,qA,qZ,qS]
     have rowY:RowE Y (w.heap.size+3) va i vc fs:=HL.out.row.later bY
     refine zah (i:=18) (o:=⟨some 37,.call { callee:=.builtin .append,args:=#[.tmp 20,.tmp 36],argTypes:=#[23,23]},23,_,#[⟨1,.data⟩,⟨17,.data⟩,⟨15,.chain⟩],none⟩) (by kernel_rfl) rfl (fun K hK=>?_)
     refine step_appE rfl (.tmp 20) (.tmp 36) rfl (w.heap.size+3) va i vc fs ⟨w2.heap.size,0,none⟩ ⟨x.f,va2,vc2,x.bs⟩ rfl rfl rowY (by have:=bY.size;omega) eY (by omega) ?_
     intro va4 vc4 w4 r4 g4
     have b4:Below (w.heap.size+3) wr w4:=(bY.mono hsz).trans (za4 (Below.refl _ Y) (by have:=bY.size;omega) rowY g4)
     refine hK.out _ _ ⟨fun _=>HSK.out _ b4,?_⟩
     clear hK K
     try simp only [Act.put,qA,qZ,qS]
     have HNX:Hid (CopTo w (w4.setCell ⟨w.heap.size+1+1,2,none⟩ (.slice va4 (i+1) vc4)) r ⟨ua,uc,some ⟨b,o,none⟩,lc,es,fa,fc⟩ ⟨ka,kc,va4,vc4,fs++[⟨x.f,va2,vc2,x.bs⟩],ga,gc⟩ (i+1)) :=
      cop_next (k:=⟨ka,kc,va,vc,fs,ga,gc⟩) HL.out HX.out.1 rfl bY ⟨rY,HX.out.2.1.1.1.2.1,hxl,HX.out.2.1.2⟩ r4 g4
     have hb34:=HL.out.b3.below b4 (by omega)
     have z2:=hb34.cell 2 rfl
     have zf:=hb34.frozen 2
     refine zah (i:=19) (o:=⟨some 38,.fieldAddr 27 (.tmp 3) 2,0,_,#[⟨0,.phase⟩,⟨1,.phase⟩,⟨2,.phase⟩,⟨3,.phase⟩,⟨4,.phase⟩,⟨5,.phase⟩,⟨6,.phase⟩,⟨7,.phase⟩,⟨8,.phase⟩,⟨9,.phase⟩,⟨10,.phase⟩,⟨11,.phase⟩,⟨12,.phase⟩,⟨13,.phase⟩,⟨14,.phase⟩,⟨15,.phase⟩,⟨16,.phase⟩,⟨17,.phase⟩,⟨18,.phase⟩],none⟩) (by kernel_rfl) rfl (fun K hK=>?_)
     rw [if_pos (by rfl)]
     go_simp
     refine hK.out _ _ ⟨fun _=>HSK.out _ b4,?_⟩
     clear hK K
     try simp only [Act.put,qA,qZ,qS]
     refine zah (i:=20) (o:=⟨none,.store 23 (.tmp 38) (.tmp 37),0,_,#[⟨19,.data⟩,⟨18,.data⟩,⟨18,.chain⟩,⟨0,.phase⟩,⟨1,.phase⟩,⟨2,.phase⟩,⟨3,.phase⟩,⟨4,.phase⟩,⟨5,.phase⟩,⟨6,.phase⟩,⟨7,.phase⟩,⟨8,.phase⟩,⟨9,.phase⟩,⟨10,.phase⟩,⟨11,.phase⟩,⟨12,.phase⟩,⟨13,.phase⟩,⟨14,.phase⟩,⟨15,.phase⟩,⟨16,.phase⟩,⟨17,.phase⟩,⟨18,.phase⟩],none⟩) (by kernel_rfl) rfl (fun K hK=>?_)
     rw [if_pos (by rfl)]
     go_simp
     refine hK.out _ _ ⟨fun h=>absurd rfl h,?_⟩
     clear hK K
     refine zax (by kernel_rfl) ?_ _
     try simp only [Act.put,qA,qZ,qS]
     clear y0 y1 y2 y3 y4 y5 y6 y7 y9 y10 y11 y12 y13 y14 hS HSK b6 r6 hb2 b2 r2 bY rY eY rowY r4 g4 b4 hb34 z2 zf HL HX hsz hxl p2
     go_wp2_with fail
     go_roundw
     case rel=>exact ⟨i+1,_,by go_num,by omega,HNX⟩
     case measure=>simp [intOf];omega
  · obtain rfl:i=n:=by omega
    have hge:¬((i:Int)<(i:Int)):=by omega
    have hfl:fs.length=i:=HL.out.row.len
    have HFL:Hid (fs.length=i):=hfl
    obtain ⟨X0,hX0⟩:∃ X0,wr.alloc (.cells #[] 78)=X0:=⟨_,rfl⟩
    have HX0:Hid (Below wr.heap.size wr X0∧RowT X0 wr.heap.size (some ⟨wr.heap.size,0,none⟩) 0 0 []∧X0.heap.size=wr.heap.size+1):=by
     rw [← hX0]
     exact ⟨zaa (Below.refl _ _) _,zen wr _ (Nat.le_refl _),by simp⟩
    have p11:X0.cell? ⟨w.heap.size,11,none⟩=some (.slice fa m fc):=by have:=(HL.out.b1.later HX0.out.1).cell 11 rfl;simp only [HN.out.2.1] at this;exact this
    have hsz:=HL.out.sz
    go_upto_region 9 with (at_builtin;refine list_appT0 rfl rfl (.tmp 39) (.tmp 41) rfl wr.heap.size (some ⟨wr.heap.size,0,none⟩) 0 fa m fc r.first rfl rfl HX0.out.2.1 (by have:=HX0.out.2.2;omega) ((HH.out.fst.later HL.out.bel).later HX0.out.1) HN.out.2.1 ?_;intro va8 vc8 w8 hR8 hB8 hg8;have hY8:=(HL.out.b3.later HX0.out.1).below hB8 HL.out.b3.lt;have z11:=hY8.cell 11 rfl;have f11:=hY8.frozen 11)
    clear z11 f11
    have hb8:Below wr.heap.size wr w8:=HX0.out.1.trans hB8
    obtain ⟨V9,hV9⟩:∃ V9,w8.setCell ⟨w.heap.size+1+1,11,none⟩ (.slice va8 m vc8)=V9:=⟨_,rfl⟩
    have hb3:Box V9 (w.heap.size+1+1) 27 (rvL r ⟨ka,kc,va,vc,fs,va8,vc8⟩):=by
     have:=hY8.set 11 (.slice va8 m vc8)
     rw [← hV9]
     simp only [rvL,HN.out.2.1] at this ⊢
     exact this
    have hb2:Box V9 (w.heap.size+1) 27 zR:=by rw [← hV9];exact (HL.out.b2.later hb8).aside _ _ _ (by omega)
    have hbw:Below w.heap.size w V9:=by rw [← hV9];exact zar (HL.out.bel.trans (hb8.mono HL.out.bel.size)) _ _ _ (by omega)
    have q1:RowE V9 (w.heap.size+3) va fs.length vc fs:=by rw [← hV9,hfl];exact zas (HL.out.row.later hb8) _ _ _ (by omega)
    have q2:Fam V9 (w.heap.size+3) (⟨0,ka,kc,r.s.u⟩::fs):=by
     rw [← hV9]
     exact ⟨fun x hx=>{ (HL.out.fam.later hb8).mine x hx with row:=zas ((HL.out.fam.later hb8).mine x hx).row _ _ _ (by omega)},HL.out.fam.part⟩
    have q3:RowT V9 (w.heap.size+3) va8 m vc8 r.first:=by rw [← hV9];exact zas (hR8.mono hsz) _ _ _ (by omega)
    have hes:fs.map En.pc=r.s.l:=by
     rw [HL.out.tk,← HH.out.les]
     show (es.take i).map En.pc=es.map En.pc
     rw [List.take_of_length_le (by rw [HN.out.1];exact Nat.le_refl _)]
    have HQ:Hid (RowE V9 (w.heap.size+3) va fs.length vc fs∧Fam V9 (w.heap.size+3) (⟨0,ka,kc,r.s.u⟩::fs)∧RowT V9 (w.heap.size+3) va8 m vc8 r.first∧fs.map En.pc=r.s.l∧Below w.heap.size w V9∧Box V9 (w.heap.size+1) 27 zR):=⟨q1,q2,q3,hes,hbw,hb2⟩
    rw [hV9]
    clear hV9 hY8 hR8 hB8 hg8 hb8 q1 q2 q3 hes hbw HL p2 p11 hX0 HX0 hge
    refine wp_cpyR rfl rfl rfl rfl rfl rfl r ⟨ka,kc,va,vc,fs,va8,vc8⟩ (gs:=w.heap.size+1+1) (gd:=w.heap.size+1) rfl rfl rfl hb3 rfl hb2 ?_
    intro X hX
    have hput:Box X (w.heap.size+1) 27 (rvL r ⟨ka,kc,va,vc,fs,va8,vc8⟩):=by rw [← hX];exact HQ.out.2.2.2.2.2.put _ rfl
    have HF:Hid (RvOwn X w.heap.size r ⟨ka,kc,va,vc,fs,va8,vc8⟩∧Below w.heap.size w X):=by
     rw [← hX]
     refine ⟨RvOwn.mono (B:=w.heap.size+3) ⟨HQ.out.2.2.2.1,by show fs.length*32≤_;rw [hfl];exact hlr,zam HQ.out.1 _ _ _ (by omega),⟨fun x hx=>{ HQ.out.2.1.mine x hx with row:=zam (HQ.out.2.1.mine x hx).row _ _ _ (by omega)},HQ.out.2.1.part⟩,?_,by rw [HN.out.2.1];exact hfr⟩ (by omega),zaf (by omega) HQ.out.2.2.2.2.1⟩
     show RowT _ _ va8 r.first.length vc8 r.first
     rw [HN.out.2.1]
     exact zam HQ.out.2.2.1 _ _ _ (by omega)
    clear hX hb3 hb2 HQ
    simp only [Act.put,qA,qZ,qS]
    go_wp2_with fail
    refine bodyPost_ret (res_r rfl _ _ (w.heap.size+1) _ rfl rfl hput) rfl ?_
    refine ⟨⟨ka,kc,va,vc,fs,va8,vc8⟩,?_,HF.out⟩
    simp only [rvL,HN.out.2.1,HN.out.2.2]
end Go.Proofs.Ytkigcdmlkmcdcaa
