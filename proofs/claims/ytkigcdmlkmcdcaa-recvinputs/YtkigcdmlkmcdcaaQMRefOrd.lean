/- The document's order. -/
import Derived.Test.YtkigcdmlkmcdcaaQZ
import Derived.Test.YtkigcdmlkmcdcaaQMRefTkP
import Derived.Test.YtkigcdmlkmcdcaaQMRefPut
import Derived.Test.YtkigcdmlkmcdcaaQGL
namespace Go.Proofs.Ytkigcdmlkmcdcaa
open Go.ChangeShapes Go.WideShapes Go.ChangeAt Go.RowKit
set_option linter.unusedVariables false
set_option linter.unusedSimpArgs false
theorem zfl {ev:Operand→Value} {o:Oper} {p:Operand} (ho:o.op=.load 27 p) {g:Nat} (hp:ev p=.pointer (some ⟨g,0,none⟩)) (r:Pl.Rv) (h:Hd) (w:World) (hb:Box w g 27 (rvL r h)):(execOp ev o).run Try.prog w=.ok (.value (.agg #[.int .i64 r.s.n,.slice h.ua r.s.u.length h.uc,.slice h.la h.es.length h.lc,.int .i64 r.cap,.int .i64 r.shift,.int .i64 r.edge,.int .u32 r.recent,.bool r.stamps,.bool r.sacks,.int .i64 r.fin,.bool r.dn,.slice h.fa r.first.length h.fc,.int .u32 r.irs,.int .u32 r.own,.bool r.stamp])) w:=by
 obtain ⟨d0,d1,d2,d3,d4,d5,d6,d7,d8,d9,d10,d11,d12,d13,d14⟩:=Box.c15 hb
 unfold execOp
 simp only [ho,hp]
 first|(go_simp;done)|(go_simp;with_reducible rfl)
theorem zgr {id:Nat} {Q:Exit→Act→World→Prop} {a:Act} {w:World} {o1 o2:Oper} (g1:o1.guard=none) (g2:o2.guard=none) {p q:Operand} {t:Tmp} (h1:o1.op=.load 27 p) (d1:o1.dst=some t) (h2:o2.op=.store 27 q (.tmp t)) (d2:o2.dst=none)
 (r:Pl.Rv) (k:Hd) {gs gd:Nat} (hp:a.eval p=.pointer (some ⟨gs,0,none⟩)) (hq:(a.put (some t) (.agg #[.int .i64 r.s.n,.slice k.ua r.s.u.length k.uc,.slice k.la k.es.length k.lc,.int .i64 r.cap,.int .i64 r.shift,.int .i64 r.edge,.int .u32 r.recent,.bool r.stamps,.bool r.sacks,.int .i64 r.fin,.bool r.dn,.slice k.fa r.first.length k.fc,.int .u32 r.irs,.int .u32 r.own,.bool r.stamp])).eval q=.pointer (some ⟨gd,0,none⟩)) (ht:(a.put (some t) (.agg #[.int .i64 r.s.n,.slice k.ua r.s.u.length k.uc,.slice k.la k.es.length k.lc,.int .i64 r.cap,.int .i64 r.shift,.int .i64 r.edge,.int .u32 r.recent,.bool r.stamps,.bool r.sacks,.int .i64 r.fin,.bool r.dn,.slice k.fa r.first.length k.fc,.int .u32 r.irs,.int .u32 r.own,.bool r.stamp])).eval (.tmp t)=.agg #[.int .i64 r.s.n,.slice k.ua r.s.u.length k.uc,.slice k.la k.es.length k.lc,.int .i64 r.cap,.int .i64 r.shift,.int .i64 r.edge,.int .u32 r.recent,.bool r.stamps,.bool r.sacks,.int .i64 r.fin,.bool r.dn,.slice k.fa r.first.length k.fc,.int .u32 r.irs,.int .u32 r.own,.bool r.stamp])
 (hs:Box w gs 27 (rvL r k)) {cs:List Value} (hl:cs.length=15) (hd:Box w gd 27 cs) (h:∀ X,setAll w gd 0 (rvL r k)=X→Q .normal (a.put (some t) (.agg #[.int .i64 r.s.n,.slice k.ua r.s.u.length k.uc,.slice k.la k.es.length k.lc,.int .i64 r.cap,.int .i64 r.shift,.int .i64 r.edge,.int .u32 r.recent,.bool r.stamps,.bool r.sacks,.int .i64 r.fin,.bool r.dn,.slice k.fa r.first.length k.fc,.int .u32 r.irs,.int .u32 r.own,.bool r.stamp])) X):(Code.region id #[o1,o2] false).wp Try.prog Q a w:=by
 refine wp_region_list (ops:=#[o1,o2]) ?_
 refine wpList_plain g1 fun K hK=>?_
 unfold Oper.wp
 rw [zfl h1 hp r k w hs,Oper.upon_value,d1]
 refine hK _ _ ?_
 refine wpList_plain g2 fun K' hK'=>?_
 have:=zbx (ops:=#[o1,o2]) (o:=o2) (a:=a.put (some t) (.agg #[.int .i64 r.s.n,.slice k.ua r.s.u.length k.uc,.slice k.la k.es.length k.lc,.int .i64 r.cap,.int .i64 r.shift,.int .i64 r.edge,.int .u32 r.recent,.bool r.stamps,.bool r.sacks,.int .i64 r.fin,.bool r.dn,.slice k.fa r.first.length k.fc,.int .u32 r.irs,.int .u32 r.own,.bool r.stamp])) (w:=w) (K:=K') (Q:=Q) (E:=False) g2 q (.tmp t) h2 r k gd hl hq ht hd rfl (fun v=>hK' _ _ (by rw [d2];exact h _ rfl))
 rwa [if_pos (by simp [Region.wanted,g2])] at this
theorem zei {S:Nat→Prop} (X:World) (g:Nat):∀ (i:Nat) (vs:List Value),S g→Chg S X (setAll X g i vs)
 | _,[],_=>⟨Below.refl _ _,fun _ _ _=>rfl⟩
 | i,v::vs,h=>(Chg.set X g i v h).trans (zei (X.setCell ⟨g,i,none⟩ v) g (i+1) vs h)
structure OrI (w wr:World) (B:Nat) (r:Pl.Rv) (h:Hd) (s1:Pl.Rx) (h1:Hd):Prop where
 tk:TkAt wr B s1 h1
 bx:Box wr w.heap.size 27 (rvL { r with s:=s1} h1)
 bz:Box wr (w.heap.size+1) 27 zR
 kp:Keep B w wr
 ff:h1.fa=h.fa∧h1.fc=h.fc
 st:(s1=r.s∧∀ x∈h1.es,s1.u.length+x.bs.length≤8589934592∧s1.n+(x.bs.length:Int)≤1125899906842624∧0≤s1.n)∨(s1=Pl.ordR r.s∧Pl.latB s1.n s1.l)
set_option maxRecDepth 100000 in
set_option maxHeartbeats 8000000 in
theorem refOrder_any (r:Pl.Rv) (h:Hd) (B:Nat) (w:World) (hBw:B≤w.heap.size) (H:TkAt w B r.s h) (hlat:Pl.latB (r.s.n-1) r.s.l) (hbd:0≤r.s.n∧∀ x∈h.es,r.s.u.length+x.bs.length≤8589934592∧r.s.n+(x.bs.length:Int)≤1125899906842624) :
 Calls Try.prog 70 #[.agg #[.int .i64 r.s.n,.slice h.ua r.s.u.length h.uc,.slice h.la h.es.length h.lc,.int .i64 r.cap,.int .i64 r.shift,.int .i64 r.edge,.int .u32 r.recent,.bool r.stamps,.bool r.sacks,.int .i64 r.fin,.bool r.dn,.slice h.fa r.first.length h.fc,.int .u32 r.irs,.int .u32 r.own,.bool r.stamp]] w fun e w'=>∃ k:Hd,e=.returned (.agg #[.int .i64 ({ r with s:=Pl.ordR r.s}).s.n,.slice k.ua ({ r with s:=Pl.ordR r.s}).s.u.length k.uc,.slice k.la k.es.length k.lc,.int .i64 ({ r with s:=Pl.ordR r.s}).cap,.int .i64 ({ r with s:=Pl.ordR r.s}).shift,.int .i64 ({ r with s:=Pl.ordR r.s}).edge,.int .u32 ({ r with s:=Pl.ordR r.s}).recent,.bool ({ r with s:=Pl.ordR r.s}).stamps,.bool ({ r with s:=Pl.ordR r.s}).sacks,.int .i64 ({ r with s:=Pl.ordR r.s}).fin,.bool ({ r with s:=Pl.ordR r.s}).dn,.slice k.fa ({ r with s:=Pl.ordR r.s}).first.length k.fc,.int .u32 ({ r with s:=Pl.ordR r.s}).irs,.int .u32 ({ r with s:=Pl.ordR r.s}).own,.bool ({ r with s:=Pl.ordR r.s}).stamp])∧TkAt w' B (Pl.ordR r.s) k∧(k.fa=h.fa∧k.fc=h.fc)∧Keep B w w':=by
 have HLat:Hid (Pl.latB (r.s.n-1) r.s.l):=hlat
 obtain ⟨W0,hW0⟩:∃ W0,(w.alloc (.cells #[.int .i64 r.s.n,.slice h.ua r.s.u.length h.uc,.slice h.la h.es.length h.lc,.int .i64 r.cap,.int .i64 r.shift,.int .i64 r.edge,.int .u32 r.recent,.bool r.stamps,.bool r.sacks,.int .i64 r.fin,.bool r.dn,.slice h.fa r.first.length h.fc,.int .u32 r.irs,.int .u32 r.own,.bool r.stamp] 27)).alloc (.cells zR.toArray 27)=W0:=⟨_,rfl⟩
 have H0:Hid (OrI w W0 B r h r.s h):=by
  have hb:Below w.heap.size w W0:=by rw [← hW0];exact zaa (zbo w _) _
  refine ⟨H.later hb,?_,?_,Keep.of_below hb hBw,⟨rfl,rfl⟩,.inl ⟨rfl,fun x hx=>?_⟩⟩
  · rw [← hW0];exact Box.alloc (Box.new w 27 (rvL r h)) _
  · rw [← hW0]
    have:=Box.new (w.alloc (.cells #[.int .i64 r.s.n,.slice h.ua r.s.u.length h.uc,.slice h.la h.es.length h.lc,.int .i64 r.cap,.int .i64 r.shift,.int .i64 r.edge,.int .u32 r.recent,.bool r.stamps,.bool r.sacks,.int .i64 r.fin,.bool r.dn,.slice h.fa r.first.length h.fc,.int .u32 r.irs,.int .u32 r.own,.bool r.stamp] 27)) 27 zR
    rwa [World.size_alloc] at this
  · have:=hbd.2 x hx
    have:=hbd.1
    omega
 clear H hlat hbd
 go_enter Try.func70,Try.ntmps70
 go_wp2_with fail
 try rw [hW0]
 clear hW0
 go_loopw [16] (fun _ wr=>∃ (s1:Pl.Rx) (h1:Hd),Hid (OrI w wr B r h s1 h1)) (fun _ wr=>lenAt wr ⟨w.heap.size,2,none⟩)
 case atStart=>exact ⟨r.s,h,H0.out⟩
 case round =>
  obtain ⟨s1,h1,HJ0⟩:=hrel
  clear H0
  have c0:wr.cell? ⟨w.heap.size,0,none⟩=some (.int .i64 s1.n):=HJ0.out.bx.cell 0 rfl
  cases hes:h1.es with
  | nil =>
   have c2:wr.cell? ⟨w.heap.size,2,none⟩=some (.slice h1.la 0 h1.lc):=by have:=HJ0.out.bx.cell 2 rfl;simp only [rvL,hes] at this;exact this
   have HST:Hid (Pl.ordR r.s=s1):=by
    unfold Hid
    rcases HJ0.out.st with ⟨hs,_⟩|⟨hs,_⟩
    · rw [← hs];exact ord_stay (fun p t e=>by rw [← HJ0.out.tk.les,hes] at e;cases e)
    · exact hs.symm
   clear hes
   go_upto_region 1 with fail
   go_quiet (fail)
   obtain ⟨V,hV⟩:∃ V,wr.drewN nq=V:=⟨_,rfl⟩
   have hbq:=zad (Below.refl wr.heap.size wr) nq
   rw [hV] at hbq
   have HJ:Hid (OrI w V B r h s1 h1):=⟨HJ0.out.tk.later hbq,HJ0.out.bx.later hbq,HJ0.out.bz.later hbq,HJ0.out.kp.trans (Keep.of_below hbq (Nat.le_trans hBw HJ0.out.kp.bel.size)),HJ0.out.ff,HJ0.out.st⟩
   rw [hV]
   clear hV hbq c0 c2
   go_upto_region 5 with fail
   refine zgr rfl rfl rfl rfl rfl rfl { r with s:=s1} h1 (gs:=w.heap.size) (gd:=w.heap.size+1) rfl rfl rfl HJ.out.bx rfl HJ.out.bz ?_
   intro X hX
   have HF:Hid (Box X (w.heap.size+1) 27 (rvL { r with s:=s1} h1)∧TkAt X B s1 h1∧Keep B w X):=by
    rw [← hX]
    exact ⟨HJ.out.bz.put _ rfl,HJ.out.tk.besideAll (by decide) (by decide) _ _ _ 0 HJ.out.bz,HJ.out.kp.step hBw (zei (S:=fun k=>k=w.heap.size+1) V (w.heap.size+1) 0 _ rfl) (fun k hk=>.inl (by omega))⟩
   clear hX
   simp only [Act.put,qA,qZ,qS]
   go_wp2_with fail
   refine bodyPost_ret (res_r rfl _ _ (w.heap.size+1) (rvL { r with s:=s1} h1) rfl rfl HF.out.1) rfl ?_
   rw [HST.out]
   exact ⟨h1,rfl,HF.out.2.1,HJ.out.ff,HF.out.2.2⟩
  | cons x rest =>
   obtain ⟨lb,lo,hla,x0,x1⟩:=za5.head (w:=wr) (a:=h1.la) (x:=x) (es:=rest) (by rw [← hes];exact HJ0.out.tk.pcs.ents)
   obtain ⟨n,hn⟩:∃ n,h1.es.length=n:=⟨_,rfl⟩
   have hn1:1≤n:=by rw [← hn,hes];simp
   have hn0:(0:Int)<(n:Int):=by omega
   have hn2:0<n:=by omega
   have hn3:decide (0<n)=true:=decide_eq_true hn2
   have hnm:n≤9223372036854775807:=by have:=HJ0.out.tk.pcs.reach;omega
   have c2:wr.cell? ⟨w.heap.size,2,none⟩=some (.slice (some ⟨lb,lo,none⟩) n h1.lc):=by have:=HJ0.out.bx.cell 2 rfl;(try simp only [rvL] at this);rw [← hla,← hn];exact this
   by_cases q:x.f=s1.n
   · have g1:(x.f==s1.n)=true:=by simpa using q
     have g2:decide (x.f=s1.n)=true:=by simpa using q
     have HQ:Hid (x.f=s1.n∧h1.es=x::rest∧h1.la=some ⟨lb,lo,none⟩∧h1.es.length=n):=⟨q,hes,hla,hn⟩
     clear q hes hla hn
     go_upto_region 1 with fail
     go_quiet (fail)
     obtain ⟨V,hV⟩:∃ V,wr.drewN nq=V:=⟨_,rfl⟩
     have hbq:=zad (Below.refl wr.heap.size wr) nq
     rw [hV] at hbq
     have HJ:Hid (OrI w V B r h s1 h1):=⟨HJ0.out.tk.later hbq,HJ0.out.bx.later hbq,HJ0.out.bz.later hbq,HJ0.out.kp.trans (Keep.of_below hbq (Nat.le_trans hBw HJ0.out.kp.bel.size)),HJ0.out.ff,HJ0.out.st⟩
     have c2':=(hbq.cell (p:=⟨w.heap.size,2,none⟩) (zac c2)).trans c2
     have x1':=(hbq.cell (p:=⟨lb,lo+1,none⟩) (zac x1)).trans x1
     rw [hV]
     clear hV hbq c0 c2 x0 x1 g1 g2
     have c2:=c2'
     have x1:=x1'
     have hbx:=HJ.out.bx
     obtain ⟨q,hes,hla,hn⟩:=HQ.out
     clear c2' x1'
     have hx0:x.f=s1.n:=q
     have hpx:x∈h1.es:=by rw [hes];simp
     obtain ⟨U,hU⟩:∃ U,s1.u.length=U:=⟨_,rfl⟩
     have HU:Hid (s1.u.length=U):=hU
     obtain ⟨X,hX⟩:∃ X,x.bs.length=X:=⟨_,rfl⟩
     have HXl:Hid (x.bs.length=X):=hX
     obtain ⟨hs1,hbd1⟩:s1=r.s∧∀ x∈h1.es,s1.u.length+x.bs.length≤8589934592∧s1.n+(x.bs.length:Int)≤1125899906842624∧0≤s1.n:=by
      rcases HJ.out.st with hs|⟨hs,hl⟩
      · exact hs
      · exfalso
        rw [← HJ.out.tk.les,hes,List.map_cons] at hl
        have:=hl.1
        have h3:x.pc.1=x.f:=rfl
        omega
     have HS1:Hid (s1=r.s):=hs1
     have hsum:U+X≤8589934592∧s1.n+(X:Int)≤1125899906842624∧0≤s1.n:=by
      have h1:=hbd1 x hpx
      rw [hU,hX] at h1
      exact h1
     clear hs1 hbd1
     have x2:=x1
     rw [hX] at x2
     have hxb:=(HJ.out.tk.fam.mine x (List.mem_cons_of_mem _ hpx)).ok.1
     -- Unread
     obtain ⟨S,hS⟩:∃ S:World→Prop,S=fun W=>W.cell? ⟨w.heap.size,1,none⟩=some (.slice h1.ua U h1.uc)∧W.cell? ⟨w.heap.size,2,none⟩=some (.slice (some ⟨lb,lo,none⟩) n h1.lc)∧W.cell? ⟨lb,lo+1,none⟩=some (.slice x.a X x.c):=⟨_,rfl⟩
     have hu1:V.cell? ⟨w.heap.size,1,none⟩=some (.slice h1.ua U h1.uc):=by have:=hbx.cell 1 rfl;(try simp only [rvL] at this);rw [← hU];exact this
     have hS0:S V.drew:=by rw [hS];exact ⟨hu1,c2,x2⟩
     go_upto_region 2 with fail
     obtain ⟨y0,y1,y2,y3,y4,y5,y6⟩:(∀ {ps} (ev:EV),ev (.tmp 1)=.pointer (some ⟨w.heap.size,0,none⟩)→Yl Try.prog S ev ⟨some 17,.fieldAddr 27 (.tmp 1) 1,0,ps,#[],none⟩ ((.pointer (some ⟨w.heap.size,1,none⟩))))∧(∀ {ps} (ev:EV),ev (.tmp 17)=.pointer (some ⟨w.heap.size,1,none⟩)→Yl Try.prog S ev ⟨some 18,.load 22 (.tmp 17),22,ps,#[⟨0,.data⟩],none⟩ ((.slice h1.ua U h1.uc)))∧(∀ {ps} (ev:EV),ev (.tmp 1)=.pointer (some ⟨w.heap.size,0,none⟩)→Yl Try.prog S ev ⟨some 19,.fieldAddr 27 (.tmp 1) 2,0,ps,#[],none⟩ ((.pointer (some ⟨w.heap.size,2,none⟩))))∧(∀ {ps} (ev:EV),ev (.tmp 19)=.pointer (some ⟨w.heap.size,2,none⟩)→Yl Try.prog S ev ⟨some 20,.load 23 (.tmp 19),23,ps,#[⟨2,.data⟩],none⟩ ((.slice (some ⟨lb,lo,none⟩) n h1.lc)))∧(∀ {ps} (ev:EV),ev (.tmp 20)=.slice (some ⟨lb,lo,none⟩) n h1.lc→ev (.const (Go.Value.int Go.IntKind.i64 0))=(Go.Value.int Go.IntKind.i64 0)→Yl Try.prog S ev ⟨some 21,.indexAddr 23 (.tmp 20) (.const (.int .i64 0)),0,ps,#[⟨3,.data⟩],none⟩ ((.pointer (some ⟨lb,lo,none⟩))))∧(∀ {ps} (ev:EV),ev (.tmp 21)=.pointer (some ⟨lb,lo,none⟩)→Yl Try.prog S ev ⟨some 22,.fieldAddr 74 (.tmp 21) 1,0,ps,#[⟨4,.data⟩],none⟩ ((.pointer (some ⟨lb,lo+1,none⟩))))∧(∀ {ps} (ev:EV),ev (.tmp 22)=.pointer (some ⟨lb,lo+1,none⟩)→Yl Try.prog S ev ⟨some 23,.load 22 (.tmp 22),22,ps,#[⟨5,.data⟩],none⟩ ((.slice x.a X x.c))):=by
      refine ⟨?_,?_,?_,?_,?_,?_,?_⟩<;>(intros;intro W hSw;rw [hS] at hSw;(try dsimp only at hSw);go_simp<;>with_reducible rfl)
     refine zaq S 9 (by kernel_rfl) hS0 (fun hHeld=>?_)
     refine zk 0 (y0 _ rfl) ?_
     try simp only [Act.put,qA,qZ,qS]
     refine zk 1 (y1 _ rfl) ?_
     try simp only [Act.put,qA,qZ,qS]
     refine zk 2 (y2 _ rfl) ?_
     try simp only [Act.put,qA,qZ,qS]
     refine zk 3 (y3 _ rfl) ?_
     try simp only [Act.put,qA,qZ,qS]
     refine zk 4 (y4 _ rfl rfl) ?_
     try simp only [Act.put,qA,qZ,qS]
     refine zk 5 (y5 _ rfl) ?_
     try simp only [Act.put,qA,qZ,qS]
     refine zk 6 (y6 _ rfl) ?_
     try simp only [Act.put,qA,qZ,qS]
     obtain ⟨V2,hV2⟩:∃ V2,V.drew=V2:=⟨_,rfl⟩
     have hbV:Below V.heap.size V V2:=by rw [← hV2];exact Below.drew (Below.refl _ _)
     have hT2:=HJ.out.tk.later hbV
     have hb2:=hbx.later hbV
     have hz2:=HJ.out.bz.later hbV
     have hK2:=HJ.out.kp.trans (Keep.of_below hbV (Nat.le_trans hBw HJ.out.kp.bel.size))
     rw [hV2]
     clear hV2 hHeld hS0 y0 y1 y2 y3 y4 y5 y6
     refine zah (i:=7) (o:=⟨some 24,.call { callee:=.builtin .append,args:=#[.tmp 18,.tmp 23],argTypes:=#[22,22]},22,_,#[⟨1,.data⟩,⟨6,.data⟩],none⟩) (by kernel_rfl) rfl (fun K hK=>?_)
     refine step_appA rfl (.tmp 18) (.tmp 23) rfl B h1.ua U h1.uc s1.u x.a X x.c x.bs rfl rfl (by have:=(zc0 hT2).row;rw [← hU];exact this) ((hxb.later hbV).1) hX (hxb.2.1) (by omega) (Nat.le_trans hBw hK2.bel.size) ?_
     intro ua' uc' w4 hR4 hC4 hn4
     have hK4:=tk_keep hT2 hK2 hBw hC4
     have hkp4:Keep B V2 w4:=tk_keep hT2 (Keep.refl B V2) (Nat.le_trans hBw hK2.bel.size) hC4
     have hb4:=hkp4.box hb2 (by decide)
     have hz4:=hkp4.box hz2 (by decide)
     have hR5:Row w4 B ua' (s1.u++x.bs).length uc' (s1.u++x.bs):=by rw [List.length_append,hU,hX];exact hR4
     have hT4:=tk_step hT2 hes hC4 hR5 (by rw [List.length_append,hU,hX];omega) hn4 (s1.n+(X:Int))
     have hS4:S w4:=by
      rw [hS]
      obtain ⟨cur,fr,ept⟩:=hT2.pt lb (by rw [hla];exact ⟨_,_,rfl⟩)
      have hlb:w4.heap[lb]? = V2.heap[lb]?:=hkp4.same lb (Array.getElem?_eq_some_iff.1 ept).1 (fun ⟨c3,f3,e3⟩=>absurd (za2 ept e3) (by decide))
      refine ⟨?_,?_,(World.cell?_of_block (w:=V2) hlb).trans ((hbV.cell (p:=⟨lb,lo+1,none⟩) (zac x2)).trans x2)⟩
      · have:=hb4.cell 1 rfl;(try simp only [rvL] at this);rw [← hU];exact this
      · have:=hb4.cell 2 rfl;(try simp only [rvL] at this);rw [← hla,← hn];exact this
     have HW4:Hid (TkAt w4 B ⟨s1.n+(X:Int),s1.u++x.bs,rest.map En.pc⟩ ⟨ua',uc',cutE h1.la h1.lc 1,h1.lc-1,rest,h1.fa,h1.fc⟩∧Box w4 w.heap.size 27 (rvL { r with s:=s1} h1)∧Box w4 (w.heap.size+1) 27 zR∧Keep B w w4∧S w4):=⟨hT4,hb4,hz4,hK4,hS4⟩
     refine hK.out _ _ ⟨fun _=>hS4,?_⟩
     clear hK K hR4 hC4 hn4 hK4 hkp4 hb4 hz4 hR5 hT4 hT2 hb2 hz2 hK2 hbV hxb
     try simp only [Act.put,qA,qZ,qS]
     refine zah (i:=8) (o:=⟨some 25,.fieldAddr 27 (.tmp 1) 1,0,_,#[⟨0,.phase⟩,⟨1,.phase⟩,⟨2,.phase⟩,⟨3,.phase⟩,⟨4,.phase⟩,⟨5,.phase⟩,⟨6,.phase⟩,⟨7,.phase⟩],none⟩) (by kernel_rfl) rfl (fun K hK=>?_)
     rw [if_pos (by rfl)]
     go_simp
     refine hK.out _ _ ⟨fun _=>HW4.out.2.2.2.2,?_⟩
     clear hK K
     try simp only [Act.put,qA,qZ,qS]
     have f1:=HW4.out.2.1.frozen 1
     have g1:=HW4.out.2.1.cell 1 rfl
     try simp only [rvL] at g1
     clear hS4
     refine zah (i:=9) (o:=⟨none,.store 22 (.tmp 25) (.tmp 24),0,_,#[⟨8,.data⟩,⟨7,.data⟩,⟨7,.chain⟩,⟨0,.phase⟩,⟨1,.phase⟩,⟨2,.phase⟩,⟨3,.phase⟩,⟨4,.phase⟩,⟨5,.phase⟩,⟨6,.phase⟩,⟨7,.phase⟩],none⟩) (by kernel_rfl) rfl (fun K hK=>?_)
     rw [if_pos (by rfl)]
     go_simp
     refine hK.out _ _ ⟨fun h=>absurd rfl h,?_⟩
     clear hK K
     try simp only [Act.put,qA,qZ,qS]
     refine zax (by kernel_rfl) ?_ _
     try simp only [Act.put,qA,qZ,qS]
     obtain ⟨V5,hV5⟩:∃ V5,w4.setCell ⟨w.heap.size,1,none⟩ (.slice ua' (U+X) uc')=V5:=⟨_,rfl⟩
     have HW5:Hid (TkAt V5 B ⟨s1.n+(X:Int),s1.u++x.bs,rest.map En.pc⟩ ⟨ua',uc',cutE h1.la h1.lc 1,h1.lc-1,rest,h1.fa,h1.fc⟩∧Box V5 w.heap.size 27 ((rvL { r with s:=s1} h1).set 1 (.slice ua' (U+X) uc'))∧Box V5 (w.heap.size+1) 27 zR∧Keep B w V5∧V5.cell? ⟨w.heap.size,0,none⟩=some (.int .i64 s1.n)∧V5.cell? ⟨w.heap.size,2,none⟩=some (.slice (some ⟨lb,lo,none⟩) n h1.lc)∧V5.cell? ⟨lb,lo+1,none⟩=some (.slice x.a X x.c)):=by
      have hS4:=HW4.out.2.2.2.2
      rw [hS] at hS4
      obtain ⟨cur,fr,ept⟩:=HJ.out.tk.pt lb (by rw [hla];exact ⟨_,_,rfl⟩)
      have hne:lb≠w.heap.size:=fun e=>by subst e;exact absurd (za2 ept hbx) (by decide)
      have b5:=HW4.out.2.1.set 1 (.slice ua' (U+X) uc')
      rw [hV5] at b5
      refine ⟨?_,b5,?_,?_,?_,?_,?_⟩
      · rw [← hV5];exact HW4.out.1.beside HW4.out.2.1 (by decide) (by decide) 1 _
      · rw [← hV5];exact HW4.out.2.2.1.aside _ _ _ (by omega)
      · rw [← hV5];exact HW4.out.2.2.2.1.step hBw (Chg.set (S:=fun k=>k=w.heap.size) w4 w.heap.size 1 _ rfl) (fun k hk=>.inl (by omega))
      · have:=b5.cell 0 rfl;simpa [rvL] using this
      · have:=b5.cell 2 rfl;(try simp only [rvL] at this);rw [← hla,← hn];exact this
      · rw [← hV5];exact (World.cell?_of_block (w:=w4) (Below.heap_setCell w4 ⟨w.heap.size,1,none⟩ _ lb hne)).trans hS4.2.2
     rw [hV5]
     clear hV5 f1 g1 HW4 hS S hu1
     -- Next
     obtain ⟨S,hS⟩:∃ S:World→Prop,S=fun W=>W.cell? ⟨w.heap.size,0,none⟩=some (.int .i64 s1.n)∧W.cell? ⟨w.heap.size,2,none⟩=some (.slice (some ⟨lb,lo,none⟩) n h1.lc)∧W.cell? ⟨lb,lo+1,none⟩=some (.slice x.a X x.c):=⟨_,rfl⟩
     have hS0:S V5.drew:=by rw [hS];exact HW5.out.2.2.2.2
     have hwr:Go.IntKind.i64.wrap (s1.n+(X:Int))=s1.n+(X:Int):=by rw [IntKind.wrap_i64];omega
     go_upto_region 3 with fail
     have z0:∀ {ps:String} (ev:Operand→Value),ev (.tmp 1)=.pointer (some ⟨w.heap.size,0,none⟩)→∀ W,S W→(execOp ev ⟨some 26,.fieldAddr 27 (.tmp 1) 0,0,ps,#[],none⟩).run Try.prog W=.ok (.value (.pointer (some ⟨w.heap.size,0,none⟩))) W:=by
      intro ps ev h0 W hSw
      rw [hS] at hSw
      try dsimp only at hSw
      first|(go_simp;done)|(go_simp;with_reducible rfl)
     have z1:∀ {ps:String} (ev:Operand→Value),ev (.tmp 26)=.pointer (some ⟨w.heap.size,0,none⟩)→∀ W,S W→(execOp ev ⟨some 27,.load 3 (.tmp 26),3,ps,#[⟨0,.data⟩],none⟩).run Try.prog W=.ok (.value (.int .i64 s1.n)) W:=by
      intro ps ev h0 W hSw
      rw [hS] at hSw
      try dsimp only at hSw
      first|(go_simp;done)|(go_simp;with_reducible rfl)
     have z2:∀ {ps:String} (ev:Operand→Value),ev (.tmp 1)=.pointer (some ⟨w.heap.size,0,none⟩)→∀ W,S W→(execOp ev ⟨some 28,.fieldAddr 27 (.tmp 1) 2,0,ps,#[],none⟩).run Try.prog W=.ok (.value (.pointer (some ⟨w.heap.size,2,none⟩))) W:=by
      intro ps ev h0 W hSw
      rw [hS] at hSw
      try dsimp only at hSw
      first|(go_simp;done)|(go_simp;with_reducible rfl)
     have z3:∀ {ps:String} (ev:Operand→Value),ev (.tmp 28)=.pointer (some ⟨w.heap.size,2,none⟩)→∀ W,S W→(execOp ev ⟨some 29,.load 23 (.tmp 28),23,ps,#[⟨2,.data⟩],none⟩).run Try.prog W=.ok (.value (.slice (some ⟨lb,lo,none⟩) n h1.lc)) W:=by
      intro ps ev h0 W hSw
      rw [hS] at hSw
      try dsimp only at hSw
      first|(go_simp;done)|(go_simp;with_reducible rfl)
     have z4:∀ {ps:String} (ev:Operand→Value),ev (.tmp 29)=.slice (some ⟨lb,lo,none⟩) n h1.lc→ev (.const (Go.Value.int Go.IntKind.i64 0))=(Go.Value.int Go.IntKind.i64 0)→∀ W,S W→(execOp ev ⟨some 30,.indexAddr 23 (.tmp 29) (.const (.int .i64 0)),0,ps,#[⟨3,.data⟩],none⟩).run Try.prog W=.ok (.value (.pointer (some ⟨lb,lo,none⟩))) W:=by
      intro ps ev h0 h1 W hSw
      rw [hS] at hSw
      try dsimp only at hSw
      first|(go_simp;done)|(go_simp;with_reducible rfl)
     have z5:∀ {ps:String} (ev:Operand→Value),ev (.tmp 30)=.pointer (some ⟨lb,lo,none⟩)→∀ W,S W→(execOp ev ⟨some 31,.fieldAddr 74 (.tmp 30) 1,0,ps,#[⟨4,.data⟩],none⟩).run Try.prog W=.ok (.value (.pointer (some ⟨lb,lo+1,none⟩))) W:=by
      intro ps ev h0 W hSw
      rw [hS] at hSw
      try dsimp only at hSw
      first|(go_simp;done)|(go_simp;with_reducible rfl)
     have z6:∀ {ps:String} (ev:Operand→Value),ev (.tmp 31)=.pointer (some ⟨lb,lo+1,none⟩)→∀ W,S W→(execOp ev ⟨some 32,.load 22 (.tmp 31),22,ps,#[⟨5,.data⟩],none⟩).run Try.prog W=.ok (.value (.slice x.a X x.c)) W:=by
      intro ps ev h0 W hSw
      rw [hS] at hSw
      try dsimp only at hSw
      first|(go_simp;done)|(go_simp;with_reducible rfl)
     have z7:∀ {ps:String} (ev:Operand→Value),ev (.tmp 32)=.slice x.a X x.c→∀ W,S W→(execOp ev ⟨some 33,.call { callee:=.builtin .len,args:=#[.tmp 32],argTypes:=#[22]},3,ps,#[⟨6,.data⟩],none⟩).run Try.prog W=.ok (.value (.int .i64 (X:Int))) W:=by
      intro ps ev h0 W hSw
      rw [hS] at hSw
      try dsimp only at hSw
      first|(go_simp;done)|(go_simp;with_reducible rfl)
     have z8:∀ {ps:String} (ev:Operand→Value),ev (.tmp 27)=.int .i64 s1.n→ev (.tmp 33)=.int .i64 (X:Int)→∀ W,S W→(execOp ev ⟨some 34,.binOp .add 3 (.tmp 27) (.tmp 33) 3,3,ps,#[⟨1,.data⟩,⟨7,.data⟩],none⟩).run Try.prog W=.ok (.value (.int .i64 (s1.n+(X:Int)))) W:=by
      intro ps ev h0 h1 W hSw
      rw [hS] at hSw
      try dsimp only at hSw
      first|(go_simp;done)|(go_simp;with_reducible rfl)
     refine zaq S 10 (by kernel_rfl) hS0 (fun hHeld=>?_)
     refine zk 0 (z0 _ rfl) ?_
     try simp only [Act.put,qA,qZ,qS]
     refine zk 1 (z1 _ rfl) ?_
     try simp only [Act.put,qA,qZ,qS]
     refine zk 2 (z2 _ rfl) ?_
     try simp only [Act.put,qA,qZ,qS]
     refine zk 3 (z3 _ rfl) ?_
     try simp only [Act.put,qA,qZ,qS]
     refine zk 4 (z4 _ rfl rfl) ?_
     try simp only [Act.put,qA,qZ,qS]
     refine zk 5 (z5 _ rfl) ?_
     try simp only [Act.put,qA,qZ,qS]
     refine zk 6 (z6 _ rfl) ?_
     try simp only [Act.put,qA,qZ,qS]
     refine zk 7 (z7 _ rfl) ?_
     try simp only [Act.put,qA,qZ,qS]
     refine zk 8 (z8 _ rfl rfl) ?_
     try simp only [Act.put,qA,qZ,qS]
     obtain ⟨V6,hV6⟩:∃ V6,V5.drew=V6:=⟨_,rfl⟩
     have HW6:Hid (TkAt V6 B ⟨s1.n+(X:Int),s1.u++x.bs,rest.map En.pc⟩ ⟨ua',uc',cutE h1.la h1.lc 1,h1.lc-1,rest,h1.fa,h1.fc⟩∧Box V6 w.heap.size 27 ((rvL { r with s:=s1} h1).set 1 (.slice ua' (U+X) uc'))∧Box V6 (w.heap.size+1) 27 zR∧Keep B w V6):=by
      have hb:Below V5.heap.size V5 V6:=by rw [← hV6];exact Below.drew (Below.refl _ _)
      exact ⟨HW5.out.1.later hb,HW5.out.2.1.later hb,HW5.out.2.2.1.later hb,HW5.out.2.2.2.1.trans (Keep.of_below hb (Nat.le_trans hBw HW5.out.2.2.2.1.bel.size))⟩
     rw [hV6] at hHeld ⊢
     clear hV6 HW5 hS0 z0 z1 z2 z3 z4 z5 z6 z7 z8
     refine zah (i:=9) (o:=⟨some 35,.fieldAddr 27 (.tmp 1) 0,0,_,#[⟨0,.phase⟩,⟨1,.phase⟩,⟨2,.phase⟩,⟨3,.phase⟩,⟨4,.phase⟩,⟨5,.phase⟩,⟨6,.phase⟩,⟨7,.phase⟩,⟨8,.phase⟩],none⟩) (by kernel_rfl) rfl (fun K hK=>?_)
     rw [if_pos (by rfl)]
     go_simp
     refine hK.out _ _ ⟨fun _=>hHeld,?_⟩
     clear hK K
     try simp only [Act.put,qA,qZ,qS]
     have f0:=HW6.out.2.1.frozen 0
     have g0:=HW6.out.2.1.cell 0 rfl
     try simp only [rvL,List.set_cons_succ,List.set_cons_zero] at g0
     refine zah (i:=10) (o:=⟨none,.store 3 (.tmp 35) (.tmp 34),0,_,#[⟨9,.data⟩,⟨8,.data⟩,⟨0,.phase⟩,⟨1,.phase⟩,⟨2,.phase⟩,⟨3,.phase⟩,⟨4,.phase⟩,⟨5,.phase⟩,⟨6,.phase⟩,⟨7,.phase⟩,⟨8,.phase⟩],none⟩) (by kernel_rfl) rfl (fun K hK=>?_)
     rw [if_pos (by rfl)]
     go_simp
     refine hK.out _ _ ⟨fun h=>absurd rfl h,?_⟩
     clear hK K
     try simp only [Act.put,qA,qZ,qS]
     refine zax (by kernel_rfl) ?_ _
     try simp only [Act.put,qA,qZ,qS]
     obtain ⟨V7,hV7⟩:∃ V7,V6.setCell ⟨w.heap.size,0,none⟩ (.int .i64 (s1.n+(X:Int)))=V7:=⟨_,rfl⟩
     have b7:Box V7 w.heap.size 27 (((rvL { r with s:=s1} h1).set 1 (.slice ua' (U+X) uc')).set 0 (.int .i64 (s1.n+(X:Int)))):=by rw [← hV7];exact HW6.out.2.1.set 0 _
     have HW7:Hid (TkAt V7 B ⟨s1.n+(X:Int),s1.u++x.bs,rest.map En.pc⟩ ⟨ua',uc',cutE h1.la h1.lc 1,h1.lc-1,rest,h1.fa,h1.fc⟩∧Box V7 w.heap.size 27 (((rvL { r with s:=s1} h1).set 1 (.slice ua' (U+X) uc')).set 0 (.int .i64 (s1.n+(X:Int))))∧Box V7 (w.heap.size+1) 27 zR∧Keep B w V7):=by
      refine ⟨?_,b7,?_,?_⟩
      · rw [← hV7];exact HW6.out.1.beside HW6.out.2.1 (by decide) (by decide) 0 _
      · rw [← hV7];exact HW6.out.2.2.1.aside _ _ _ (by omega)
      · rw [← hV7];exact HW6.out.2.2.2.step hBw (Chg.set (S:=fun k=>k=w.heap.size) V6 w.heap.size 0 _ rfl) (fun k hk=>.inl (by omega))
     have c7:V7.cell? ⟨w.heap.size,2,none⟩=some (.slice (some ⟨lb,lo,none⟩) n h1.lc):=by have:=b7.cell 2 rfl;(try simp only [rvL,List.set_cons_succ,List.set_cons_zero] at this);rw [← hla,← hn];exact this
     have f7:=b7.frozen 2
     have hsl:∀ W,(Instr.slice 23 (.slice (some ⟨lb,lo,none⟩) n h1.lc) (some (.int .i64 1)) none none).run Try.prog W=.ok (.slice (cutE (some ⟨lb,lo,none⟩) h1.lc 1) (n-1) (h1.lc-1)) W:=fun W=>slE_l _ _ _ 1 1 rfl (by omega) W
     rw [hV7]
     clear hV7 f0 g0 HW6 b7 hS S hHeld
     obtain ⟨la2,hla2⟩:∃ a,cutE (some ⟨lb,lo,none⟩) h1.lc 1=a:=⟨_,rfl⟩
     rw [hla2] at hsl
     go_wp2_with fail
     go_roundw
     case rel =>
      refine ⟨⟨s1.n+(X:Int),s1.u++x.bs,rest.map En.pc⟩,⟨ua',uc',cutE h1.la h1.lc 1,h1.lc-1,rest,h1.fa,h1.fc⟩,?_⟩
      have hb7:=HW7.out.2.1.set 2 (.slice la2 (n-1) (h1.lc-1))
      refine ⟨HW7.out.1.beside HW7.out.2.1 (by decide) (by decide) 2 _,?_,HW7.out.2.2.1.aside _ _ _ (by omega),HW7.out.2.2.2.step hBw (Chg.set (S:=fun k=>k=w.heap.size) V7 w.heap.size 2 _ rfl) (fun k hk=>.inl (by omega)),HJ.out.ff,?_⟩
      · have e1:cutE h1.la h1.lc 1=la2:=by rw [hla];exact hla2
        have e2:rest.length=n-1:=by rw [← hn,hes];rfl
        rw [e1]
        simp only [rvL] at hb7 ⊢
        rw [List.length_append,HU.out,HXl.out,e2]
        exact hb7
      · right
        have hs:=HS1.out
        have hl2:=HLat.out
        rw [← hs,← HJ.out.tk.les,hes,List.map_cons] at hl2
        have e:=ord_step (s:=s1) (p:=x.pc) (r:=rest.map En.pc) (by rw [← HJ.out.tk.les,hes];rfl) hx0
        have hpe:Pl.pend x.pc=s1.n+(X:Int):=by show x.f+(x.bs.length:Int)=_;rw [hx0,HXl.out]
        rw [← hs,e,hpe]
        refine ⟨rfl,?_⟩
        have hl3:Pl.latB (Pl.pend x.pc) (rest.map En.pc):=hl2.2.2
        rw [hpe] at hl3
        exact hl3
     case measure =>
      have c8:=(HW7.out.2.1.set 2 (.slice la2 (n-1) (h1.lc-1))).cell 2 rfl
      have c9:wr.cell? ⟨w.heap.size,2,none⟩=some (.slice (some ⟨lb,lo,none⟩) n h1.lc):=by have:=HJ0.out.bx.cell 2 rfl;(try simp only [rvL] at this);rw [← hla,← hn];exact this
      try simp only [rvL,List.set_cons_succ,List.set_cons_zero] at c8
      simp only [lenAt,c8,c9]
      omega
   · have g1:(x.f==s1.n)=false:=by simpa using q
     have g2:decide (x.f=s1.n)=false:=by simpa using q
     have HST:Hid (Pl.ordR r.s=s1):=by
      unfold Hid
      rcases HJ0.out.st with ⟨hs,_⟩|⟨hs,_⟩
      · rw [← hs]
        refine ord_stay (fun p t e=>?_)
        rw [← HJ0.out.tk.les,hes,List.map_cons] at e
        injection e with e1 _
        rw [← e1];exact q
      · exact hs.symm
     clear q hes hla hn
     go_upto_region 1 with fail
     go_quiet (fail)
     obtain ⟨V,hV⟩:∃ V,wr.drewN nq=V:=⟨_,rfl⟩
     have hbq:=zad (Below.refl wr.heap.size wr) nq
     rw [hV] at hbq
     have HJ:Hid (OrI w V B r h s1 h1):=⟨HJ0.out.tk.later hbq,HJ0.out.bx.later hbq,HJ0.out.bz.later hbq,HJ0.out.kp.trans (Keep.of_below hbq (Nat.le_trans hBw HJ0.out.kp.bel.size)),HJ0.out.ff,HJ0.out.st⟩
     rw [hV]
     clear hV hbq c0 c2
     go_upto_region 5 with fail
     refine zgr rfl rfl rfl rfl rfl rfl { r with s:=s1} h1 (gs:=w.heap.size) (gd:=w.heap.size+1) rfl rfl rfl HJ.out.bx rfl HJ.out.bz ?_
     intro X hX
     have HF:Hid (Box X (w.heap.size+1) 27 (rvL { r with s:=s1} h1)∧TkAt X B s1 h1∧Keep B w X):=by
      rw [← hX]
      exact ⟨HJ.out.bz.put _ rfl,HJ.out.tk.besideAll (by decide) (by decide) _ _ _ 0 HJ.out.bz,HJ.out.kp.step hBw (zei (S:=fun k=>k=w.heap.size+1) V (w.heap.size+1) 0 _ rfl) (fun k hk=>.inl (by omega))⟩
     clear hX
     simp only [Act.put,qA,qZ,qS]
     go_wp2_with fail
     refine bodyPost_ret (res_r rfl _ _ (w.heap.size+1) (rvL { r with s:=s1} h1) rfl rfl HF.out.1) rfl ?_
     rw [HST.out]
     exact ⟨h1,rfl,HF.out.2.1,HJ.out.ff,HF.out.2.2⟩
end Go.Proofs.Ytkigcdmlkmcdcaa
