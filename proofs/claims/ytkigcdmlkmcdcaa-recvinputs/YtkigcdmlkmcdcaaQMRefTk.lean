/- The document's take. -/
import Derived.Test.YtkigcdmlkmcdcaaQZ
import Derived.Test.YtkigcdmlkmcdcaaQMRefTkP
import Derived.Test.YtkigcdmlkmcdcaaQMRefOrd
import Derived.Test.YtkigcdmlkmcdcaaQMHasW
import Derived.Test.YtkigcdmlkmcdcaaQMInvO
namespace Go.Proofs.Ytkigcdmlkmcdcaa
open Go.ChangeShapes Go.WideShapes Go.ChangeAt Go.RowKit
set_option linter.unusedVariables false
set_option linter.unusedSimpArgs false
theorem wp_storeL {w:World} {o:Oper} {a:Act} {K:Act→World→Prop} {Q:Exit→Act→World→Prop} (hgd:o.guard=none) (p q:Operand) (ho:o.op=.store 27 p q) (hd:o.dst=none) (r:Pl.Rv) (h:Hd) (g:Nat) {cs:List Value} (hl:cs.length=15) (hp:a.eval p=.pointer (some ⟨g,0,none⟩)) (hq:a.eval q=.agg #[.int .i64 r.s.n,.slice h.ua r.s.u.length h.uc,.slice h.la h.es.length h.lc,.int .i64 r.cap,.int .i64 r.shift,.int .i64 r.edge,.int .u32 r.recent,.bool r.stamps,.bool r.sacks,.int .i64 r.fin,.bool r.dn,.slice h.fa r.first.length h.fc,.int .u32 r.irs,.int .u32 r.own,.bool r.stamp]) (hb:Box w g 27 cs) {X:World} (hX:setAll w g 0 (rvL r h)=X) (hK:K a X):Oper.wp Try.prog o a w K Q:=by
 have:=zbx (ops:=#[o]) (o:=o) (a:=a) (w:=w) (K:=K) (Q:=Q) (E:=False) hgd p q ho r h g hl hp hq hb hX (fun v=>by rw [hd];exact hK)
 rwa [if_pos (by simp [Region.wanted,hgd])] at this
theorem wp_ordT {id:Nat} {Q:Exit→Act→World→Prop} {a:Act} {w:World} {o1 o2 o3:Oper} (g1:o1.guard=none) (g2:o2.guard=none) (g3:o3.guard=none) {p q:Operand} {t u:Tmp} {f:FuncId} {ts:Array TypeId} (h1:o1.op=.load 27 p) (d1:o1.dst=some t) (h2:o2.op=.call { callee:=.value (.func f),args:=#[.tmp t],argTypes:=ts}) (d2:o2.dst=some u) (h3:o3.op=.store 27 q (.tmp u)) (d3:o3.dst=none) (ef:∀ args w,(callFunc f args).run Try.prog w=.ok (.enter f args) w)
 (r:Pl.Rv) (k:Hd) {gs gd:Nat} (hp:a.eval p=.pointer (some ⟨gs,0,none⟩)) (ht:(a.put (some t) (.agg #[.int .i64 r.s.n,.slice k.ua r.s.u.length k.uc,.slice k.la k.es.length k.lc,.int .i64 r.cap,.int .i64 r.shift,.int .i64 r.edge,.int .u32 r.recent,.bool r.stamps,.bool r.sacks,.int .i64 r.fin,.bool r.dn,.slice k.fa r.first.length k.fc,.int .u32 r.irs,.int .u32 r.own,.bool r.stamp])).eval (.tmp t)=.agg #[.int .i64 r.s.n,.slice k.ua r.s.u.length k.uc,.slice k.la k.es.length k.lc,.int .i64 r.cap,.int .i64 r.shift,.int .i64 r.edge,.int .u32 r.recent,.bool r.stamps,.bool r.sacks,.int .i64 r.fin,.bool r.dn,.slice k.fa r.first.length k.fc,.int .u32 r.irs,.int .u32 r.own,.bool r.stamp]) (hq:∀ X,((a.put (some t) (.agg #[.int .i64 r.s.n,.slice k.ua r.s.u.length k.uc,.slice k.la k.es.length k.lc,.int .i64 r.cap,.int .i64 r.shift,.int .i64 r.edge,.int .u32 r.recent,.bool r.stamps,.bool r.sacks,.int .i64 r.fin,.bool r.dn,.slice k.fa r.first.length k.fc,.int .u32 r.irs,.int .u32 r.own,.bool r.stamp])).put (some u) X).eval q=.pointer (some ⟨gd,0,none⟩)) (hu:∀ X,((a.put (some t) (.agg #[.int .i64 r.s.n,.slice k.ua r.s.u.length k.uc,.slice k.la k.es.length k.lc,.int .i64 r.cap,.int .i64 r.shift,.int .i64 r.edge,.int .u32 r.recent,.bool r.stamps,.bool r.sacks,.int .i64 r.fin,.bool r.dn,.slice k.fa r.first.length k.fc,.int .u32 r.irs,.int .u32 r.own,.bool r.stamp])).put (some u) X).eval (.tmp u)=X) (hs:Box w gs 27 (rvL r k))
 (hc:Calls Try.prog f #[.agg #[.int .i64 r.s.n,.slice k.ua r.s.u.length k.uc,.slice k.la k.es.length k.lc,.int .i64 r.cap,.int .i64 r.shift,.int .i64 r.edge,.int .u32 r.recent,.bool r.stamps,.bool r.sacks,.int .i64 r.fin,.bool r.dn,.slice k.fa r.first.length k.fc,.int .u32 r.irs,.int .u32 r.own,.bool r.stamp]] w fun e w'=>∃ (r2:Pl.Rv) (k2:Hd) (cs:List Value),e=.returned (.agg #[.int .i64 r2.s.n,.slice k2.ua r2.s.u.length k2.uc,.slice k2.la k2.es.length k2.lc,.int .i64 r2.cap,.int .i64 r2.shift,.int .i64 r2.edge,.int .u32 r2.recent,.bool r2.stamps,.bool r2.sacks,.int .i64 r2.fin,.bool r2.dn,.slice k2.fa r2.first.length k2.fc,.int .u32 r2.irs,.int .u32 r2.own,.bool r2.stamp])∧cs.length=15∧Box w' gd 27 cs∧Q .normal ((a.put (some t) (.agg #[.int .i64 r.s.n,.slice k.ua r.s.u.length k.uc,.slice k.la k.es.length k.lc,.int .i64 r.cap,.int .i64 r.shift,.int .i64 r.edge,.int .u32 r.recent,.bool r.stamps,.bool r.sacks,.int .i64 r.fin,.bool r.dn,.slice k.fa r.first.length k.fc,.int .u32 r.irs,.int .u32 r.own,.bool r.stamp])).put (some u) (.agg #[.int .i64 r2.s.n,.slice k2.ua r2.s.u.length k2.uc,.slice k2.la k2.es.length k2.lc,.int .i64 r2.cap,.int .i64 r2.shift,.int .i64 r2.edge,.int .u32 r2.recent,.bool r2.stamps,.bool r2.sacks,.int .i64 r2.fin,.bool r2.dn,.slice k2.fa r2.first.length k2.fc,.int .u32 r2.irs,.int .u32 r2.own,.bool r2.stamp])) (setAll w' gd 0 (rvL r2 k2))):(Code.region id #[o1,o2,o3] false).wp Try.prog Q a w:=by
 refine wp_region_list (ops:=#[o1,o2,o3]) ?_
 refine wpList_plain g1 fun K hK=>?_
 unfold Oper.wp
 rw [zfl h1 hp r k w hs,Oper.upon_value,d1]
 refine hK _ _ ?_
 refine wpList_plain g2 fun K hK=>?_
 unfold Oper.wp
 rw [zbz h2 ef,Oper.upon_enter]
 simp only [List.map_toArray,List.map_cons,List.map_nil,ht]
 refine hc.mono ?_
 rintro e w' ⟨r2,k2,cs,rfl,hl,hb,hf⟩
 refine hK _ _ ?_
 rw [d2]
 refine wpList_plain g3 fun K hK=>?_
 exact wp_storeL g3 q (.tmp u) h3 d3 r2 k2 gd hl (hq _) (hu _) hb rfl (hK _ _ hf)
theorem enter_ord (args:Array Value) (w:World):(callFunc 70 args).run Try.prog w=.ok (.enter 70 args) w:=by kernel_rfl
structure TkI (w wr:World) (B:Nat) (r:Pl.Rv) (k0:Hd) (b0 hb:Int) (s1:Pl.Rx) (k1:Hd):Prop where
 tk:TkAt wr B s1 k1
 bx:Box wr w.heap.size 27 (rvL { r with s:=s1} k1)
 bz:Box wr (w.heap.size+1) 27 zR
 kp:Keep B w wr
 ff:k1.fa=k0.fa∧k1.fc=k0.fc
 tb:Tkb s1 b0 hb
theorem TkI.later {w wr V:World} {B:Nat} {r:Pl.Rv} {k0:Hd} {b0 hb:Int} {s1:Pl.Rx} {k1:Hd} (J:TkI w wr B r k0 b0 hb s1 k1) (h:Below wr.heap.size wr V) (hB:B≤w.heap.size):TkI w V B r k0 b0 hb s1 k1 :=
 ⟨J.tk.later h,J.bx.later h,J.bz.later h,J.kp.trans (Keep.of_below h (Nat.le_trans hB J.kp.bel.size)),J.ff,J.tb⟩
theorem TkI.byt {w wr:World} {B:Nat} {r:Pl.Rv} {k0:Hd} {b0 hb:Int} {s1:Pl.Rx} {k1:Hd} (J:TkI w wr B r k0 b0 hb s1 k1):∀ p∈k1.es.map En.pc,∀ b∈p.2,0≤b:=fun p hp b hb'=>by
 obtain ⟨e,he,rfl⟩:=List.mem_map.1 hp
 have:=(J.tk.fam.mine e (List.mem_cons_of_mem _ he)).byt b hb'
 omega
theorem TkI.ents {w wr:World} {B:Nat} {r:Pl.Rv} {k0:Hd} {b0 hb:Int} {s1:Pl.Rx} {k1:Hd} (J:TkI w wr B r k0 b0 hb s1 k1) (h0:0≤b0) (h1:b0≤hb) (h2:hb≤562949953421312):∀ e∈k1.es,0≤e.f∧e.f+(e.bs.length:Int)≤1125899906842624:=fun e he=>by
 obtain ⟨q1,q2,q3⟩:=J.tb.rng h1
 have h3:=q3 e.pc (by rw [← J.tk.les];exact List.mem_map_of_mem he)
 have h4:Pl.pend e.pc=e.f+(e.bs.length:Int):=rfl
 have h5:e.pc.1=e.f:=rfl
 omega
set_option maxRecDepth 100000 in
set_option maxHeartbeats 8000000 in
theorem refTake_any (r:Pl.Rv) (k0:Hd) (B:Nat) (W0 w:World) (h0:W0.heap.size=B) (hbW:Below B W0 w) (H:TkAt w B r.s k0) (x:Int) (hx:-1125899906842624≤x∧x≤1125899906842624) (ds:List Int) (da:Option Addr) (dc:Nat) (hds:SlAt W0 da dc ds) (hl:lowB r) (hok:r.s.ok) (hbel:Pl.below r.s r.limit) (hi:Int) (hhi:(if 0≤r.fin then Pl.minJ r.limit r.fin else r.limit)=hi) (T:Pl.Rx×Bool) (hT:Pl.takeGo r.s.n hi ds x r.s false=T) (z:Int) (hz:Pl.lastGo T.1.l ds x (-1)=z) :
 Calls Try.prog 42 #[.agg #[.int .i64 r.s.n,.slice k0.ua r.s.u.length k0.uc,.slice k0.la k0.es.length k0.lc,.int .i64 r.cap,.int .i64 r.shift,.int .i64 r.edge,.int .u32 r.recent,.bool r.stamps,.bool r.sacks,.int .i64 r.fin,.bool r.dn,.slice k0.fa r.first.length k0.fc,.int .u32 r.irs,.int .u32 r.own,.bool r.stamp],.int .i64 x,.slice da ds.length dc] w fun e w'=>∃ k:Hd,e=.returned (.tuple #[.agg #[.int .i64 ({ r with s:=T.1}).s.n,.slice k.ua ({ r with s:=T.1}).s.u.length k.uc,.slice k.la k.es.length k.lc,.int .i64 ({ r with s:=T.1}).cap,.int .i64 ({ r with s:=T.1}).shift,.int .i64 ({ r with s:=T.1}).edge,.int .u32 ({ r with s:=T.1}).recent,.bool ({ r with s:=T.1}).stamps,.bool ({ r with s:=T.1}).sacks,.int .i64 ({ r with s:=T.1}).fin,.bool ({ r with s:=T.1}).dn,.slice k.fa ({ r with s:=T.1}).first.length k.fc,.int .u32 ({ r with s:=T.1}).irs,.int .u32 ({ r with s:=T.1}).own,.bool ({ r with s:=T.1}).stamp],.bool T.2,.int .i64 z])∧TkAt w' B T.1 k∧(k.fa=k0.fa∧k.fc=k0.fc)∧Keep B w w':=by
 have cL:=fun W=>zcs r k0 W hl
 obtain ⟨lim,hlim⟩:∃ l,r.limit=l:=⟨_,rfl⟩
 obtain ⟨b0,hb0⟩:∃ b,r.s.bot=b:=⟨_,rfl⟩
 obtain ⟨m,hm⟩:∃ m,ds.length=m:=⟨_,rfl⟩
 have HB2:Hid (0≤b0∧b0≤lim):=by
  obtain ⟨⟨l1,l2⟩,⟨l3,l4⟩,⟨l5,l6⟩,l7,l8⟩:=hl
  rw [← hlim,← hb0]
  unfold Hid Pl.Rv.limit Pl.minJ Pl.Rv.reach Pl.Rx.bot Pl.farI
  split<;>constructor<;>omega
 have HB3:Hid (lim≤562949953421312∧lim-b0≤1073741824):=by
  obtain ⟨⟨l1,l2⟩,⟨l3,l4⟩,⟨l5,l6⟩,l7,l8⟩:=hl
  rw [← hlim,← hb0]
  unfold Hid Pl.Rv.limit Pl.minJ Pl.Rv.reach Pl.Rx.bot Pl.farI
  split<;>constructor<;>omega
 rw [hlim] at cL hhi hbel
 have HHI:Hid (hi≤lim):=by rw [← hhi];unfold Hid Pl.minJ;split<;>(try split)<;>omega
 have HX:Hid (-1125899906842624≤x∧x≤1125899906842624):=hx
 have HB:Hid (B≤w.heap.size):=by have:=hbW.size;unfold Hid;omega
 have HC:Hid (SlAt W0 da dc ds∧Below B W0 w∧ds.length=m∧(0:Nat)=0∧W0.heap.size=B):=⟨hds,hbW,hm,rfl,h0⟩
 have HZ:Hid (Pl.lastGo T.1.l ds x (-1)=z):=hz
 obtain ⟨Y0,hY0⟩:∃ Y0,(w.alloc (.cells #[.int .i64 r.s.n,.slice k0.ua r.s.u.length k0.uc,.slice k0.la k0.es.length k0.lc,.int .i64 r.cap,.int .i64 r.shift,.int .i64 r.edge,.int .u32 r.recent,.bool r.stamps,.bool r.sacks,.int .i64 r.fin,.bool r.dn,.slice k0.fa r.first.length k0.fc,.int .u32 r.irs,.int .u32 r.own,.bool r.stamp] 27)).alloc (.cells zR.toArray 27)=Y0:=⟨_,rfl⟩
 have J0:Hid (TkI w Y0 B r k0 b0 lim r.s k0):=by
  have hb:Below w.heap.size w Y0:=by rw [← hY0];exact zaa (zbo w _) _
  refine ⟨H.later hb,?_,?_,Keep.of_below hb HB.out,⟨rfl,rfl⟩,⟨hok,hb0,hbel⟩⟩
  · rw [← hY0];exact Box.alloc (Box.new w 27 (rvL r k0)) _
  · rw [← hY0]
    have:=Box.new (w.alloc (.cells #[.int .i64 r.s.n,.slice k0.ua r.s.u.length k0.uc,.slice k0.la k0.es.length k0.lc,.int .i64 r.cap,.int .i64 r.shift,.int .i64 r.edge,.int .u32 r.recent,.bool r.stamps,.bool r.sacks,.int .i64 r.fin,.bool r.dn,.slice k0.fa r.first.length k0.fc,.int .u32 r.irs,.int .u32 r.own,.bool r.stamp] 27)) 27 zR
    rwa [World.size_alloc] at this
 have HT:Hid (Pl.takeGo r.s.n hi (ds.drop 0) (x+((0:Nat):Int)) r.s false=T):=by unfold Hid;rw [show x+((0:Nat):Int)=x by omega];exact hT
 have hxm:m≤140737488351232:=by have:=hds.1.1;omega
 rw [hm]
 clear H hds hl hok hbel hT hz h0 hbW hm hlim hb0
 go_enter Try.func42,Try.ntmps42
 go_upto_region 3 with fail
 try rw [hY0]
 clear hY0
 have hb0:Box Y0 w.heap.size 27 (rvL r k0):=J0.out.bx
 obtain ⟨c0,c1,c2,c3,c4,c5,c6,c7,c8,c9,c10,c11,c12,c13,c14⟩:=Box.c15 hb0
 go_wp2_with (go_at_call 41;refine (cL _).mono ?_;rintro e w1 ⟨rfl,hB⟩;clear c0 c1 c2 c3 c4 c5 c6 c7 c8 c9 c10 c11 c12 c13 c14;have J1:Hid (TkI w w1 B r k0 b0 lim r.s k0):=J0.out.later hB HB.out;have c9:=J1.out.bx.cell 9 rfl;have c0:=J1.out.bx.cell 0 rfl;clear J0 hb0 hB cL)
 all_goals first
  | (have he:r.fin=hi:=(by rw [← hhi,if_pos (by assumption)];unfold Pl.minJ;rw [if_pos (by assumption)]);rw [he];clear he)
  | (have he:lim=hi:=(by rw [← hhi,if_pos (by assumption)];unfold Pl.minJ;rw [if_neg (by omega)]);rw [he];clear he)
  | (have he:lim=hi:=(by rw [← hhi,if_neg (by omega)]);rw [he];clear he)
 all_goals clear c9 c0 hhi
 all_goals
  go_loopw [9,13] (fun vf vi wr=>∃ (i:Nat) (f:Bool) (s1:Pl.Rx) (k1:Hd),vf=.bool f∧vi=.int .i64 (i:Int)∧i≤m∧Hid (TkI w wr B r k0 b0 lim s1 k1)∧Hid (Pl.takeGo r.s.n hi (ds.drop i) (x+(i:Int)) s1 f=T)) (fun _ vi _=>m-(intOf vi).toNat)
  case atStart=>exact ⟨0,false,r.s,k0,rfl,rfl,Nat.zero_le _,J1,HT⟩
  case round =>
   obtain ⟨i,f,s1,k1,rfl,rfl,hi',HJ,HG⟩:=hrel
   clear HT J1
   by_cases hlt:i<m
   · have hlt':(i:Int)<(m:Int):=by omega
     obtain ⟨y,hy⟩:∃ y,x+(i:Int)=y:=⟨_,rfl⟩
     have hyb:-1125899906842624≤y∧y≤2251799813685248:=by have:=HX.out;omega
     have hwy:IntKind.i64.wrap (x+(i:Int))=y:=by rw [hy,IntKind.wrap_i64];omega
     have HY:Hid (x+(i:Int)=y):=hy
     obtain ⟨b1,hb1⟩:∃ b,ds[i]? = some b:=⟨_,List.getElem?_eq_getElem (by rw [HC.out.2.2.1];exact hlt)⟩
     have HD1:Hid (ds[i]? = some b1):=hb1
     clear hy hb1
     by_cases q1:y<r.s.n∨hi≤y
     · have HE:Hid (Pl.takeGo r.s.n hi (ds.drop (i+1)) (x+((i+1:Nat):Int)) s1 f=T):=by
        have h1:=HG.out
        rw [(zbl HD1.out).1,HY.out,take_out q1] at h1
        rw [show x+((i+1:Nat):Int)=y+1 by have:=HY.out;omega]
        exact h1
       rcases Int.lt_or_le y r.s.n with q2|q2
       · have hq2:decide (y<r.s.n)=true:=decide_eq_true q2
         go_wp2_with fail
         go_roundw
         case rel=>exact ⟨i+1,f,s1,k1,rfl,by go_num,by omega,HJ,HE⟩
         case measure=>simp [intOf];omega
       · have hq2:decide (y<r.s.n)=false:=decide_eq_false (by omega)
         have hq3:hi≤y:=by omega
         have hq4:decide (hi≤y)=true:=decide_eq_true hq3
         go_wp2_with fail
         go_roundw
         case rel=>exact ⟨i+1,f,s1,k1,rfl,by go_num,by omega,HJ,HE⟩
         case measure=>simp [intOf];omega
     · have HQN:Hid (¬(y<r.s.n∨hi≤y)):=q1
       have q2:¬y<r.s.n:=fun e=>q1 (.inl e)
       have q3:¬hi≤y:=fun e=>q1 (.inr e)
       have hq2:decide (y<r.s.n)=false:=decide_eq_false q2
       have hq4:decide (hi≤y)=false:=decide_eq_false q3
       obtain ⟨n1,hn1⟩:∃ n,k1.es.length=n:=⟨_,rfl⟩
       obtain ⟨v,hv⟩:∃ v,(Pl.hasL (k1.es.map En.pc) y).getD (-1)=v:=⟨_,rfl⟩
       have hvn:Hid (v<0↔Pl.hasL s1.l y=none):=by rw [← HJ.out.tk.les];exact has_v hv HJ.out.byt
       have cH:=zgb k1.la k1.lc k1.es wr HJ.out.tk.pcs n1 hn1 y hyb (HJ.out.ents HB2.out.1 HB2.out.2 HB3.out.1) v hv
       have c2:wr.cell? ⟨w.heap.size,2,none⟩=some (.slice k1.la n1 k1.lc):=by have:=HJ.out.bx.cell 2 rfl;rw [← hn1];exact this
       clear hv
       go_wp2_with fail
       refine cH.mono ?_
       rintro e' w1 ⟨rfl,hB1⟩
       have J1:Hid (TkI w w1 B r k0 b0 lim s1 k1):=HJ.out.later hB1 HB.out
       have c0:w1.cell? ⟨w.heap.size,0,none⟩=some (.int .i64 s1.n):=J1.out.bx.cell 0 rfl
       clear cH c2 hB1
       by_cases q5:v<0
       · have hq5:decide (v<0)=true:=decide_eq_true q5
         by_cases q6:s1.n≤y
         · have hq6:decide (s1.n≤y)=true:=decide_eq_true q6
           have HQ3:Hid (Pl.hasL s1.l y=none∧s1.n≤y):=⟨hvn.out.1 q5,q6⟩
           have HPN:Hid ((0≤b0∧lim≤1125899906842624∧lim-b0≤4294967296)∧(b0≤y∧y<lim)∧(∀ e∈k1.es,b0≤e.f∧Pl.pend e.pc≤lim)∧b0≤lim):=by
            have g1:=HB2.out
            have g2:=HB3.out
            have g3:=HHI.out
            obtain ⟨t1,t2,t3⟩:=J1.out.tb.rng g1.2
            refine ⟨by omega,by omega,fun e he=>?_,g1.2⟩
            have h3:=t3 e.pc (by rw [← J1.out.tk.les];exact List.mem_map_of_mem he)
            have h5:e.pc.1=e.f:=rfl
            omega
           obtain ⟨by',hby⟩:∃ b,ds[i]? = some b:=⟨_,List.getElem?_eq_getElem (by rw [HC.out.2.2.1];exact hlt)⟩
           have hbr:0≤by'∧by'≤255:=by have:=HC.out.1.1.2.1 by' (List.mem_of_getElem? hby);omega
           obtain ⟨db,dn',rfl,d1⟩:=(HC.out.1.below (HC.out.2.1.trans J1.out.kp.bel) (Nat.le_of_eq HC.out.2.2.2.2)).1.2.2 i (by rw [HC.out.2.2.1];exact hlt)
           rw [hby] at d1
           simp only [Option.getD_some] at d1
           obtain ⟨S,hS⟩:∃ S:World→Prop,S=fun W=>W.cell? ⟨w.heap.size,2,none⟩=some (.slice k1.la n1 k1.lc)∧W.cell? ⟨db,dn'+i,none⟩=some (.int .u8 by'):=⟨_,rfl⟩
           have c2:w1.cell? ⟨w.heap.size,2,none⟩=some (.slice k1.la n1 k1.lc):=by have:=J1.out.bx.cell 2 rfl;rw [← hn1];exact this
           have hS0:S w1.drew:=by rw [hS];exact ⟨c2,d1⟩
           have hpn:=HPN.out
           have HBY:Hid (ds[i]? = some by'∧(0≤by'∧by'≤255)∧k1.es.length=n1):=⟨hby,hbr,hn1⟩
           clear hby hbr hn1
           go_upto_region 13 with fail
           obtain ⟨y0,y1,y2,y3,y4,y5,y6⟩:(∀ {ps} (ev:EV),ev (.tmp 3)=.pointer (some ⟨w.heap.size,0,none⟩)→Yl Try.prog S ev ⟨some 55,.fieldAddr 27 (.tmp 3) 2,0,ps,#[],none⟩ ((.pointer (some ⟨w.heap.size,2,none⟩))))∧(∀ {ps} (ev:EV),ev (.tmp 55)=.pointer (some ⟨w.heap.size,2,none⟩)→Yl Try.prog S ev ⟨some 56,.load 23 (.tmp 55),23,ps,#[⟨0,.data⟩],none⟩ ((.slice k1.la n1 k1.lc)))∧(∀ {ps} (ev:EV),ev (.tmp 14)=.int .i64 y→Yl Try.prog S ev ⟨some 57,.move (.tmp 14),3,ps,#[],none⟩ ((.int .i64 y)))∧(∀ {ps} (ev:EV),ev (.tmp 2)=.slice (some ⟨db,dn',none⟩) m dc→Yl Try.prog S ev ⟨some 58,.move (.tmp 2),22,ps,#[],none⟩ ((.slice (some ⟨db,dn',none⟩) m dc)))∧(∀ {ps} (ev:EV),ev (.tmp 13)=.int .i64 (i:Int)→Yl Try.prog S ev ⟨some 59,.move (.tmp 13),3,ps,#[],none⟩ ((.int .i64 (i:Int))))∧(∀ {ps} (ev:EV),ev (.tmp 58)=.slice (some ⟨db,dn',none⟩) m dc→ev (.tmp 59)=.int .i64 (i:Int)→Yl Try.prog S ev ⟨some 60,.indexAddr 22 (.tmp 58) (.tmp 59),0,ps,#[⟨3,.data⟩,⟨4,.data⟩],none⟩ ((.pointer (some ⟨db,dn'+i,none⟩))))∧(∀ {ps} (ev:EV),ev (.tmp 60)=.pointer (some ⟨db,dn'+i,none⟩)→Yl Try.prog S ev ⟨some 61,.load 5 (.tmp 60),5,ps,#[⟨5,.data⟩],none⟩ ((.int .u8 by'))):=by
            refine ⟨?_,?_,?_,?_,?_,?_,?_⟩<;>(intros;intro W hSw;rw [hS] at hSw;(try dsimp only at hSw);go_simp<;>with_reducible rfl)
           refine zaq S 9 (by kernel_rfl) hS0 (fun hHeld=>?_)
           refine zk 0 (y0 _ rfl) ?_
           try simp only [Act.put,qA,qZ,qS]
           refine zk 1 (y1 _ rfl) ?_
           try simp only [Act.put,qA,qZ,qS]
           refine zk 2 (y2 _ rfl) ?_
           try simp only [Act.put,qA,qZ,qS]
           refine zk 3 (y3 _ rfl) ?_
           try simp only [Act.put,qA,qZ,qS]
           refine zk 4 (y4 _ rfl) ?_
           try simp only [Act.put,qA,qZ,qS]
           refine zk 5 (y5 _ rfl rfl) ?_
           try simp only [Act.put,qA,qZ,qS]
           refine zk 6 (y6 _ rfl) ?_
           try simp only [Act.put,qA,qZ,qS]
           obtain ⟨V2,hV2⟩:∃ V2,w1.drew=V2:=⟨_,rfl⟩
           have hbV:Below w1.heap.size w1 V2:=by rw [← hV2];exact Below.drew (Below.refl _ _)
           have J2:=J1.out.later hbV HB.out
           have cP:=refPut_any k1.la k1.lc k1.es V2 J2.tk.pcs n1 HBY.out.2.2 y by' b0 lim s1.n HBY.out.2.1 hpn.1 hpn.2.1 hpn.2.2.1 (by rw [J2.tk.les];exact J2.tb.ok)
           rw [hV2]
           clear hV2 hHeld hS0 y0 y1 y2 y3 y4 y5 y6 c2 d1
           refine zah (i:=7) (o:=⟨some 62,.call { callee:=.value (.func 69),args:=#[.tmp 56,.tmp 57,.tmp 61],argTypes:=#[23,3,5]},23,_,#[⟨1,.data⟩,⟨2,.data⟩,⟨6,.data⟩],none⟩) (by kernel_rfl) rfl (fun K hK=>?_)
           rw [if_pos (by rfl)]
           go_simp
           refine cP.mono ?_
           rintro e' w4 ⟨va,vc,es',fr,l1,l2,rfl,he1,he2,he3,he4,he5,he6⟩
           have J4:=J2.later he6 HB.out
           have hnn:Pl.hasL s1.l y=none:=HQ3.out.1
           obtain ⟨p1,p2,p3,p4⟩:=J2.tb.put (b:=by') hpn.2.2.2 HQ3.out.2 hpn.2.1.2 hnn
           rw [J2.tk.les] at he3
           have hcnt:es'.length*32≤140737488351232:=by
            have h1:(Pl.putL s1.l y by').length=es'.length:=by rw [← he3,List.length_map]
            rcases zfq p2 (fun p hp=>(p4 p hp).2) with e|e
            · rw [e] at h1;simp only [List.length_nil] at h1;omega
            · rw [h1] at e;have:=hpn.1;have h4:=HB3.out;have h5:=(J2.tb.rng hpn.2.2.2).2.1;omega
           have hT4:=tk_put J2.tk (Nat.le_trans HB.out J2.kp.bel.size) he1 he2 he3 he4 he5 he6 hcnt
           have hS4:S w4:=by
            rw [hS]
            have hd4:=(HC.out.1.below (HC.out.2.1.trans J4.kp.bel) (Nat.le_of_eq HC.out.2.2.2.2)).1.2.2 i (by rw [HC.out.2.2.1];exact hlt)
            obtain ⟨_,_,e1,e2⟩:=hd4
            cases e1
            rw [HBY.out.1] at e2
            refine ⟨?_,e2⟩
            have:=J4.bx.cell 2 rfl
            rw [← HBY.out.2.2];exact this
           have HW4:Hid (TkAt w4 B ⟨s1.n,s1.u,Pl.putL s1.l y by'⟩ ⟨k1.ua,k1.uc,va,vc,es',k1.fa,k1.fc⟩∧TkI w w4 B r k0 b0 lim s1 k1∧Tkb (Pl.ordR ⟨s1.n,s1.u,Pl.putL s1.l y by'⟩) b0 lim∧Pl.latB (s1.n-1) (Pl.putL s1.l y by')∧(∀ p∈Pl.putL s1.l y by',s1.n≤p.1∧Pl.pend p≤lim)∧es'.map En.pc=Pl.putL s1.l y by'):=⟨hT4,J4,p1,p2,p4,he3⟩
           refine hK.out _ _ ⟨fun _=>hS4,?_⟩
           clear hK K cP he1 he2 he3 he4 he5 he6 J4 J2 hbV p1 p2 p3 p4 hcnt hT4 hnn
           obtain ⟨n4,hn4⟩:∃ n,es'.length=n:=⟨_,rfl⟩
           rw [hn4]
           try simp only [Act.put,qA,qZ,qS]
           refine zah (i:=8) (o:=⟨some 63,.fieldAddr 27 (.tmp 3) 2,0,_,#[⟨0,.phase⟩,⟨1,.phase⟩,⟨2,.phase⟩,⟨3,.phase⟩,⟨4,.phase⟩,⟨5,.phase⟩,⟨6,.phase⟩,⟨7,.phase⟩],none⟩) (by kernel_rfl) rfl (fun K hK=>?_)
           rw [if_pos (by rfl)]
           go_simp
           refine hK.out _ _ ⟨fun _=>hS4,?_⟩
           clear hK K
           try simp only [Act.put,qA,qZ,qS]
           have f2:=HW4.out.2.1.bx.frozen 2
           have g2:=HW4.out.2.1.bx.cell 2 rfl
           clear hS4
           refine zah (i:=9) (o:=⟨none,.store 23 (.tmp 63) (.tmp 62),0,_,#[⟨8,.data⟩,⟨7,.data⟩,⟨7,.chain⟩,⟨0,.phase⟩,⟨1,.phase⟩,⟨2,.phase⟩,⟨3,.phase⟩,⟨4,.phase⟩,⟨5,.phase⟩,⟨6,.phase⟩,⟨7,.phase⟩],none⟩) (by kernel_rfl) rfl (fun K hK=>?_)
           rw [if_pos (by rfl)]
           go_simp
           refine hK.out _ _ ⟨fun h=>absurd rfl h,?_⟩
           clear hK K
           try simp only [Act.put,qA,qZ,qS]
           refine zax (by kernel_rfl) ?_ _
           try simp only [Act.put,qA,qZ,qS]
           obtain ⟨V5,hV5⟩:∃ V5,w4.setCell ⟨w.heap.size,2,none⟩ (.slice va n4 vc)=V5:=⟨_,rfl⟩
           have HW5:Hid (TkAt V5 B ⟨s1.n,s1.u,Pl.putL s1.l y by'⟩ ⟨k1.ua,k1.uc,va,vc,es',k1.fa,k1.fc⟩∧Box V5 w.heap.size 27 (rvL { r with s:=⟨s1.n,s1.u,Pl.putL s1.l y by'⟩} ⟨k1.ua,k1.uc,va,vc,es',k1.fa,k1.fc⟩)∧Box V5 (w.heap.size+1) 27 zR∧Keep B w V5):=by
            have b5:=HW4.out.2.1.bx.set 2 (.slice va n4 vc)
            refine ⟨?_,?_,?_,?_⟩
            · rw [← hV5];exact HW4.out.1.beside HW4.out.2.1.bx (by decide) (by decide) 2 _
            · rw [← hV5];rw [← hn4] at b5 ⊢;exact b5
            · rw [← hV5];exact HW4.out.2.1.bz.aside _ _ _ (by omega)
            · rw [← hV5];exact HW4.out.2.1.kp.step HB.out (Chg.set (S:=fun k=>k=w.heap.size) w4 w.heap.size 2 _ rfl) (fun k hk=>.inl (by omega))
           rw [hV5]
           clear hV5 f2 g2 hS S
           go_upto_region 14 with fail
           have hbo:0≤s1.n∧∀ e∈es',s1.u.length+e.bs.length≤8589934592∧s1.n+(e.bs.length:Int)≤1125899906842624:=by
            obtain ⟨q1,q2,q3⟩:=HW4.out.2.1.tb.rng hpn.2.2.2
            have hb3:=HB3.out
            refine ⟨by omega,fun e he=>?_⟩
            have h1:=HW4.out.2.2.2.2.1 e.pc (by rw [← HW4.out.2.2.2.2.2];exact List.mem_map_of_mem he)
            have h2:Pl.pend e.pc=e.f+(e.bs.length:Int):=rfl
            have h3:e.pc.1=e.f:=rfl
            omega
           refine wp_ordT rfl rfl rfl rfl rfl rfl rfl rfl rfl enter_ord { r with s:=⟨s1.n,s1.u,Pl.putL s1.l y by'⟩} ⟨k1.ua,k1.uc,va,vc,es',k1.fa,k1.fc⟩ (gs:=w.heap.size) (gd:=w.heap.size) rfl rfl (fun _=>rfl) (fun _=>rfl) HW5.out.2.1 ((refOrder_any { r with s:=⟨s1.n,s1.u,Pl.putL s1.l y by'⟩} ⟨k1.ua,k1.uc,va,vc,es',k1.fa,k1.fc⟩ B V5 (Nat.le_trans HB.out HW5.out.2.2.2.bel.size) HW5.out.1 HW4.out.2.2.2.1 hbo).mono ?_)
           rintro e6 w6 ⟨k6,rfl,t6,f6,kp6⟩
           have b6:=kp6.box HW5.out.2.1 (by decide)
           refine ⟨{ r with s:=Pl.ordR ⟨s1.n,s1.u,Pl.putL s1.l y by'⟩},k6,_,rfl,rfl,b6,?_⟩
           obtain ⟨X7,hX7⟩:∃ X,setAll w6 w.heap.size 0 (rvL { r with s:=Pl.ordR ⟨s1.n,s1.u,Pl.putL s1.l y by'⟩} k6)=X:=⟨_,rfl⟩
           have J7:Hid (TkI w X7 B r k0 b0 lim (Pl.ordR ⟨s1.n,s1.u,Pl.putL s1.l y by'⟩) k6):=by
            rw [← hX7]
            refine ⟨t6.besideAll (by decide) (by decide) _ _ _ 0 b6,b6.put _ rfl,(kp6.box HW5.out.2.2.1 (by decide)).putAside _ _ _ (by omega),(HW5.out.2.2.2.trans kp6).step HB.out (zei (S:=fun k=>k=w.heap.size) w6 w.heap.size 0 _ rfl) (fun k hk=>.inl (by omega)),?_,HW4.out.2.2.1⟩
            exact ⟨f6.1.trans HW4.out.2.1.ff.1,f6.2.trans HW4.out.2.1.ff.2⟩
           have HE:Hid (Pl.takeGo r.s.n hi (ds.drop (i+1)) (x+((i+1:Nat):Int)) (Pl.ordR ⟨s1.n,s1.u,Pl.putL s1.l y by'⟩) true=T):=by
            have h1:=HG.out
            rw [(zbl HBY.out.1).1,HY.out,take_in HQN.out HQ3.out] at h1
            rw [show x+((i+1:Nat):Int)=y+1 by have:=HY.out;omega]
            exact h1
           rw [hX7]
           clear hX7 HW5 HW4 b6 t6 f6 kp6 hbo
           simp only [Act.put,qA,qZ,qS]
           go_wp2_with fail
           go_roundw
           case rel=>exact ⟨i+1,true,_,k6,rfl,by go_num,by omega,J7,HE⟩
           case measure=>simp [intOf];omega
         · have hq6:decide (s1.n≤y)=false:=decide_eq_false q6
           have HE:Hid (Pl.takeGo r.s.n hi (ds.drop (i+1)) (x+((i+1:Nat):Int)) s1 f=T):=by
            have h1:=HG.out
            rw [(zbl HD1.out).1,HY.out,take_had (fun e=>q6 e.2)] at h1
            rw [show x+((i+1:Nat):Int)=y+1 by have:=HY.out;omega]
            exact h1
           go_wp2_with fail
           go_roundw
           case rel=>exact ⟨i+1,f,s1,k1,rfl,by go_num,by omega,J1,HE⟩
           case measure=>simp [intOf];omega
       · have hq5:decide (v<0)=false:=decide_eq_false q5
         have HE:Hid (Pl.takeGo r.s.n hi (ds.drop (i+1)) (x+((i+1:Nat):Int)) s1 f=T):=by
          have h1:=HG.out
          rw [(zbl HD1.out).1,HY.out,take_had (fun e=>q5 (hvn.out.2 e.1))] at h1
          rw [show x+((i+1:Nat):Int)=y+1 by have:=HY.out;omega]
          exact h1
         go_wp2_with fail
         go_roundw
         case rel=>exact ⟨i+1,f,s1,k1,rfl,by go_num,by omega,J1,HE⟩
         case measure=>simp [intOf];omega
   · obtain rfl:i=m:=by omega
     have hge:¬((i:Int)<(i:Int)):=by omega
     have HE:Hid (T.1=s1∧T.2=f):=by
      have h1:=HG.out
      rw [List.drop_eq_nil_of_le (by rw [HC.out.2.2.1];exact Nat.le_refl _),Pl.takeGo] at h1
      rw [← h1];exact ⟨rfl,rfl⟩
     have HZ2:Hid (Pl.lastGo s1.l (ds.drop 0) (x+((0:Nat):Int)) (-1)=z):=by
      unfold Hid;rw [← HE.out.1,show x+((0:Nat):Int)=x by omega];exact HZ.out
     clear HG HZ
     go_wp2_with fail
     obtain ⟨U,hU⟩:∃ U,wr=U:=⟨_,rfl⟩
     have HJU:Hid (TkI w U B r k0 b0 lim s1 k1):=by rw [← hU];exact HJ.out
     rw [hU]
     clear HJ hU
     go_loopw [10,15] (fun vz vj wr=>∃ (j:Nat) (z1:Int),vz=.int .i64 z1∧vj=.int .i64 (j:Int)∧j≤i∧Hid (Pl.lastGo s1.l (ds.drop j) (x+(j:Int)) z1=z∧Below U.heap.size U wr)) (fun _ vj _=>i-(intOf vj).toNat)
     case atStart=>exact ⟨0,-1,rfl,rfl,Nat.zero_le _,HZ2.out,Below.refl _ _⟩
     case round =>
      obtain ⟨j,z1,rfl,rfl,hj,HR⟩:=hrel
      clear HZ2
      by_cases hlj:j<i
      · have hlj':(j:Int)<(i:Int):=by omega
        obtain ⟨y,hy⟩:∃ y,x+(j:Int)=y:=⟨_,rfl⟩
        have hyb:-1125899906842624≤y∧y≤2251799813685248:=by have:=HX.out;have:=HC.out.1.1.1;rw [HC.out.2.2.1] at this;omega
        have hwy:IntKind.i64.wrap (x+(j:Int))=y:=by rw [hy,IntKind.wrap_i64];omega
        obtain ⟨bj,hbj⟩:∃ b,ds[j]? = some b:=⟨_,List.getElem?_eq_getElem (by rw [HC.out.2.2.1];exact hlj)⟩
        obtain ⟨v,hv⟩:∃ v,(Pl.hasL (k1.es.map En.pc) y).getD (-1)=v:=⟨_,rfl⟩
        have J0:=HJU.out.later HR.out.2 HB.out
        have hvn:Hid (v<0↔Pl.hasL s1.l y=none):=by rw [← J0.tk.les];exact has_v hv (J0.byt)
        have HN:Hid (Pl.lastGo s1.l (ds.drop (j+1)) (x+((j+1:Nat):Int)) (if Pl.hasL s1.l y=none then z1 else y)=z):=by
         have h1:=HR.out.1
         rw [(zbl hbj).1,Pl.lastGo,hy] at h1
         rw [show x+((j+1:Nat):Int)=y+1 by omega]
         exact h1
        have cH:=zgb k1.la k1.lc k1.es wr J0.tk.pcs k1.es.length rfl y hyb (J0.ents HB2.out.1 HB2.out.2 HB3.out.1) v hv
        have c2:wr.cell? ⟨w.heap.size,2,none⟩=some (.slice k1.la k1.es.length k1.lc):=J0.bx.cell 2 rfl
        clear J0 hv hbj
        go_wp2_with fail
        refine cH.mono ?_
        rintro e' w1 ⟨rfl,hB1⟩
        have HN1:Hid (Below U.heap.size U w1):=Below.on HR.out.2 hB1
        clear cH c2 hB1
        by_cases q:v<0
        · have hq0:¬(0≤v):=by omega
          have hq1:decide (0≤v)=false:=decide_eq_false hq0
          have HM:Hid (Pl.lastGo s1.l (ds.drop (j+1)) (x+((j+1:Nat):Int)) z1=z):=by have:=HN.out;rw [if_pos (hvn.out.1 q)] at this;exact this
          go_wp2_with fail
          go_roundw
          case rel=>exact ⟨j+1,z1,rfl,by go_num,by omega,HM.out,HN1.out⟩
          case measure=>simp [intOf];omega
        · have hq0:0≤v:=by omega
          have hq1:decide (0≤v)=true:=decide_eq_true hq0
          have HM:Hid (Pl.lastGo s1.l (ds.drop (j+1)) (x+((j+1:Nat):Int)) y=z):=by have:=HN.out;rw [if_neg (fun e=>q (hvn.out.2 e))] at this;exact this
          go_wp2_with fail
          go_roundw
          case rel=>exact ⟨j+1,y,rfl,by go_num,by omega,HM.out,HN1.out⟩
          case measure=>simp [intOf];omega
      · obtain rfl:j=i:=by omega
        have hge:¬((j:Int)<(j:Int)):=by omega
        have hz1:z1=z:=by
         have h1:=HR.out.1
         rw [List.drop_eq_nil_of_le (by rw [HC.out.2.2.1];exact Nat.le_refl _),Pl.lastGo] at h1
         exact h1
        subst hz1
        have J9:Hid (TkI w wr B r k0 b0 lim s1 k1):=HJU.out.later HR.out.2 HB.out
        go_upto_region 21 with fail
        refine wp_region_list ?_
        refine wpList_plain rfl fun K hK=>?_
        unfold Oper.wp
        rw [zfl rfl (g:=w.heap.size) rfl { r with s:=s1} k1 wr J9.out.bx,Oper.upon_value]
        refine hK _ _ ?_
        clear hK K
        refine wpList_plain rfl fun K hK=>?_
        unfold Oper.wp
        rw [run_move rfl,Oper.upon_value]
        refine hK _ _ ?_
        clear hK K
        refine wpList_plain rfl fun K hK=>?_
        unfold Oper.wp
        rw [run_move rfl,Oper.upon_value]
        refine hK _ _ ?_
        clear hK K
        refine wpList_plain rfl fun K hK=>?_
        obtain ⟨X9,hX9⟩:∃ X,setAll wr (w.heap.size+1) 0 (rvL { r with s:=s1} k1)=X:=⟨_,rfl⟩
        have HF:Hid (Box X9 (w.heap.size+1) 27 (rvL { r with s:=s1} k1)∧TkAt X9 B s1 k1∧Keep B w X9):=by
         rw [← hX9]
         exact ⟨J9.out.bz.put _ rfl,J9.out.tk.besideAll (by decide) (by decide) _ _ _ 0 J9.out.bz,J9.out.kp.step HB.out (zei (S:=fun k=>k=w.heap.size+1) wr (w.heap.size+1) 0 _ rfl) (fun k hk=>.inl (by omega))⟩
        refine wp_storeL rfl (.tmp 6) (.tmp 82) rfl rfl { r with s:=s1} k1 (w.heap.size+1) (cs:=zR) rfl rfl rfl J9.out.bz hX9 (hK _ _ ?_)
        clear hK K hX9
        simp only [Act.put,qA,qZ,qS]
        go_wp2_with fail
        refine bodyPost_ret (res_rtt rfl _ _ (w.heap.size+1) (rvL { r with s:=s1} k1) rfl rfl HF.out.1) rfl ?_
        rw [HE.out.1,HE.out.2]
        exact ⟨k1,rfl,HF.out.2.1,J9.out.ff,HF.out.2.2⟩
end Go.Proofs.Ytkigcdmlkmcdcaa
