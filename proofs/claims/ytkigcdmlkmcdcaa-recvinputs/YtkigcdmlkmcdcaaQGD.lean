/- GD: SColl SConc. -/
import Derived.Test.YtkigcdmlkmcdcaaQZ
import Derived.Test.YtkigcdmlkmcdcaaQGC
import Derived.Maps.OwnIn
import Derived.Lib.AppendZeros
import Derived.Laws.CopyRow
import Derived.Laws.Externs
/- A row that grows in a loop's rounds; what slices.Collect makes of what is missing; Gaps. -/
namespace Go.Proofs.Ytkigcdmlkmcdcaa
open Go.ChangeShapes Go.WideShapes Go.ChangeAt Go.RowKit Go.Shelf
set_option linter.unusedVariables false
attribute [local go_sem] Oper.semAt_some
theorem zcj {w:World} {B:Nat} {va:Option Addr} {L vc:Nat} {l:List Tm} (h:RowT w B va L vc l):(va=none∧(Value.slice va L vc).ownBlock=none)∨∃ g,va=some ⟨g,0,none⟩∧(Value.slice va L vc).ownBlock=some g∧B≤g∧g<w.heap.size∧(∃ cur c,w.heap[g]? = some (.cells cur 78 c)):=by
 rcases h.2 with ⟨e,h0⟩|⟨g,cap,cur,e,hg,hh,r⟩
 · cases e;exact .inl ⟨rfl,rfl⟩
 · cases e;exact .inr ⟨g,rfl,rfl,hg,(Array.getElem?_eq_some_iff.1 hh).1,_,_,hh⟩
theorem RowT.moved {X Y:World} {B:Nat} {va:Option Addr} {L vc:Nat} {l:List Tm} (h:RowT X B va L vc l) (hs:∀ k,k<X.heap.size→lies va k→Y.heap[k]? = X.heap[k]?):RowT Y B va L vc l:=by
 refine ⟨h.1,?_⟩
 rcases h.2 with h'|⟨g,c,cur,e,hB,hh,r⟩
 · exact .inl h'
 · cases e
   exact .inr ⟨g,_,cur,rfl,hB,(hs g (Array.getElem?_eq_some_iff.1 hh).1 ⟨_,_,rfl⟩).trans hh,r⟩
theorem RowT.apart {X Y:World} {B b:Nat} {Z:Nat→Prop} {va:Option Addr} {L vc:Nat} {l:List Tm} (h:RowT X B va L vc l) (hA:Apart b Z X Y) (hin:∀ k,lies va k→Z k∨k<b):RowT Y B va L vc l :=
 h.moved (fun k hk hl=>hA.same k hk (hin k hl).symm)
theorem RowT.turned {X Y:World} {B l0:Nat} {va:Option Addr} {L vc:Nat} {l:List Tm} (h:RowT X B va L vc l) (hg:X.grownBy Y (some l0)) (hne:∀ k,lies va k→k≠l0):RowT Y B va L vc l :=
 h.moved (fun k hk hl=>hg.block k hk (fun e=>hne k hl (by cases e;rfl)))
theorem coll_step {V w2:World} {tmp:Obj} {b B Bx L:Nat} {va:Option Addr} {vc:Nat} {l:List Tm} {x:Tm} {R Z:Nat→Prop} {v':Value}
 (hbox:Boxed V Bx 25 (.slice va L vc)) (hbx:Bx<b) (hRx:¬R Bx) (hrow:RowT V B va L vc l) (hin:∀ k,lies va k→Z k∨(k<b∧¬R k)) (hZ:∀ k,Z k→k<V.heap.size)
 (hown:w2.ownsRow B 78 2 v' (L+1) (za8 l++[.int .i64 x.1,.int .i64 x.2])) (hgrow:(V.alloc tmp).grownBy w2 (Value.slice va L vc).ownBlock)
 (hat:v'.ownBlock=(Value.slice va L vc).ownBlock∨v'.ownBlock=some (V.alloc tmp).heap.size) :
 ∃ va' vc',v'=.slice va' (L+1) vc'∧Boxed w2 Bx 25 (.slice va L vc)∧Boxed (w2.setCell ⟨Bx,0,none⟩ v') Bx 25 (.slice va' (L+1) vc')∧RowT (w2.setCell ⟨Bx,0,none⟩ v') B va' (L+1) vc' (l++[x]) ∧
  Mine b R Z V (fun k=>Z k∨(lies va' k∧V.heap.size≤k)) (w2.setCell ⟨Bx,0,none⟩ v')∧(∀ k,lies va' k→(Z k∨(lies va' k∧V.heap.size≤k))∨(k<b∧¬R k))∧V.grownBy w2 (Value.slice va L vc).ownBlock∧(∀ k,lies va' k→lies va k∨V.heap.size≤k):=by
 rw [← zfj] at hown
 obtain ⟨va',vc',rfl,hR⟩:=rowT_of hown
 have hga:V.grownBy w2 (Value.slice va L vc).ownBlock:=⟨hgrow.os,hgrow.tape,hgrow.output,by have:=hgrow.size;simp at this;omega,fun k hk hne=>(hgrow.block k (by simp;omega) hne).trans (Below.heap_alloc _ _ _ hk)⟩
 have hbox2:Boxed w2 Bx 25 (.slice va L vc):=hbox.kept hga (hbox.not_row (by decide) hrow)
 have hset:=grownBy_setCell' w2 Bx (.slice va' (L+1) vc')
 have hneB:∀ k,lies va' k→k≠Bx:=fun k hk e=>by
  subst e
  rcases zcj hR with ⟨e,_⟩|⟨g,e,_,_,_,cur,c,hh⟩
  · obtain ⟨_,_,e'⟩:=hk;rw [e] at e';cases e'
  · obtain ⟨_,_,e'⟩:=hk;rw [e] at e';cases e'
    rw [show w2.heap[k]? = _ from hbox2] at hh;cases hh
 have hold:∀ k,(Value.slice va L vc).ownBlock=some k→Z k∨(k<b∧¬R k):=fun k hk=>by
  rcases zcj hrow with ⟨_,e⟩|⟨g,e,e2,_⟩
  · rw [e] at hk;cases hk
  · rw [e2] at hk;cases hk;exact hin k ⟨_,_,e⟩
 have hnew0:∀ k,lies va' k→lies va k∨V.heap.size≤k:=fun k hk=>by
  rcases zcj hR with ⟨e,_⟩|⟨g,e,e2,_⟩
  · obtain ⟨_,_,e'⟩:=hk;rw [e] at e';cases e'
  · obtain ⟨_,_,e'⟩:=hk;rw [e] at e';cases e'
    rw [e2] at hat
    rcases hat with h|h
    · rcases zcj hrow with ⟨_,e3⟩|⟨g,e3,e4,_⟩
      · rw [e3] at h;cases h
      · rw [e4] at h;cases h;exact .inl ⟨_,_,e3⟩
    · cases h;exact .inr (by simp)
 have hnew:∀ k,lies va' k→(Z k∨(k<b∧¬R k))∨V.heap.size≤k:=fun k hk=>(hnew0 k hk).imp (hin k) id
 refine ⟨va',vc',rfl,hbox2,hbox2.set _,hR.turned hset hneB,⟨Below.trans ⟨hga.os,hga.tape,hga.output,hga.size,fun k hk=>by omega⟩ ⟨hset.os,hset.tape,hset.output,hset.size,fun k hk=>by omega⟩,fun k hk=>hk.imp id (fun h=>h.2),fun k hk=>?_,fun k hk hRk hzk=>?_⟩,fun k hk=>?_,hga,hnew0⟩
 · rcases hk with h|⟨h,_⟩
   · have:=hZ k h;have:=hga.size;have:=hset.size;omega
   · rcases zcj hR with ⟨e,_⟩|⟨g,e,_,_,hlt,_⟩
     · obtain ⟨_,_,e'⟩:=h;rw [e] at e';cases e'
     · obtain ⟨_,_,e'⟩:=h;rw [e] at e';cases e'
       have:=hset.size;omega
 · refine (hset.block k (by have:=hga.size;omega) (fun e=>?_)).trans (hga.block k hk (fun e=>?_))
   · cases e
     rcases hRk with h|h
     · exact hRx h
     · omega
   · rcases hold k e.symm with h|⟨h1,h2⟩
     · exact hzk h
     · rcases hRk with h|h
       · exact h2 h
       · omega
 · rcases hnew k hk with (h|h)|h
   · exact .inl (.inl h)
   · exact .inr h
   · exact .inl (.inr ⟨hk,h⟩)
theorem RowT.ge {w:World} {B:Nat} {va:Option Addr} {L vc:Nat} {l:List Tm} (h:RowT w B va L vc l) {k:Nat} (hk:lies va k):B≤k∧k<w.heap.size:=by
 rcases zcj h with ⟨e,_⟩|⟨g,e,_,hBg,hlt,_⟩
 · obtain ⟨_,_,e'⟩:=hk;rw [e] at e';cases e'
 · obtain ⟨_,_,e'⟩:=hk;rw [e] at e';cases e';exact ⟨hBg,hlt⟩
set_option maxRecDepth 100000 in
set_option maxHeartbeats 2000000 in
theorem zhi (Bs Bl:Nat) (gs:List Tm) (R:Nat→Prop) (Sp:List Tm→Prop) (w:World) (hlen:gs.length*16≤140737488355328) (hRw:∀ k,R k→k<w.heap.size)
 (hseq:zch Fence.wide 5 Try.prog 90 #[.pointer (some ⟨Bs,0,none⟩),.pointer (some ⟨Bl,0,none⟩)] (fun x:Tm=>#[Value.agg #[.int .i64 x.1,.int .i64 x.2]]) R (fun ys=>ys=gs) Sp (fun q=>q <+: gs) w) :
 Calls Try.prog 89 #[.slice none 0 0,.func (.func 90) #[] #[.pointer (some ⟨Bs,0,none⟩),.pointer (some ⟨Bl,0,none⟩)]] w fun e W'=>∃ va vc,e=.returned (.slice va gs.length vc)∧RowT W' w.heap.size va gs.length vc gs∧Below w.heap.size w W':=by
 refine (callsIn_wide (n:=6)).1 ?_
 refine callsIn_of_wp_marks Try.func89 rfl trivial ?_ rfl
 simp only [Try.ntmps89,List.size_toArray,List.length_cons,List.length_nil,Nat.reduceAdd,Nat.reduceSub,Array.replicate_succ,Array.replicate_zero,List.push_toArray,List.append_toArray,List.nil_append,List.cons_append]
 obtain ⟨i0,hi,hz0,hz1,hz2⟩:=info_parts Try.info78
 gi_wp2
 have bO2:=Boxed.new w 25 (.slice none 0 0)
 have hB2:Below w.heap.size w (w.alloc (.cells #[.slice none 0 0] 25)):=(Below.refl _ w).alloc (Nat.le_refl _) _
 have hsz:(w.alloc (.cells #[.slice none 0 0] 25)).heap.size=w.heap.size+1:=by simp
 obtain ⟨W0,hW0⟩:∃ W0,w.alloc (.cells #[.slice none 0 0] 25)=W0:=⟨_,rfl⟩
 rw [hW0] at bO2 hB2 hsz ⊢
 clear hW0
 refine zcz (F:=Fence.wide) (n:=6) rfl (by omega) (gf:=90) (lb:=#[.pointer (some ⟨Bs,0,none⟩),.pointer (some ⟨Bl,0,none⟩)]) rfl trivial (enters_of Try.func90 (by kernel_rfl) rfl) hseq hB2 (fun _=>rfl)
  (fun k hk=>by have:=hRw k hk;omega)
  (fun pre Z V=>∃ va vc,Boxed V w.heap.size 25 (.slice va pre.length vc)∧RowT V w.heap.size va pre.length vc pre∧(∀ k,lies va k→Z k)∧Below w.heap.size w V)
  (fun c pre Z V=>False)
  ?hI (fun _ _ _ _ _ h _=>h) ⟨none,0,bO2,RowT.nil _ _,fun k hk=>(by obtain ⟨_,_,e⟩:=hk;cases e),hB2⟩ ?round ?done ?stop
 case hI =>
  rintro pre Z X Y ⟨va,vc,h1,h2,h3,h5⟩ hA
  exact ⟨va,vc,zbm h1 hA (.inl (by omega)),h2.apart hA (fun k hk=>.inl (h3 k hk)),h3,zd3 h5 (Nat.le_refl _) (by omega) hA⟩
 case round =>
  rintro l pre x Z W1 hl hll hz ⟨va,vc,bO1,hR1,hin,hB1⟩ hG
  have HZ:Hid (∀ k,Z k→W0.heap.size≤k∧k<W1.heap.size∧k≠l):=hz
  have HIN:Hid (∀ k,lies va k→Z k):=hin
  have hgl:pre.length+1≤gs.length:=by have:=hG.length_le;simpa using this
  obtain ⟨L,hL⟩:∃ L,pre.length=L:=⟨_,rfl⟩
  have HLN:Hid ((pre++[x]).length=L+1):=by simp [Hid,hL]
  have HRW:Hid (∀ k,R k→k<w.heap.size):=hRw
  rw [hL] at bO1 hR1 hgl
  clear hz hG hin hseq bO2 hB2 hL hRw
  unfold zci
  gi_wp2
  refine ⟨Mine.alloc (fun k hk=>(HZ.out k hk).2.1) _,?_⟩
  intro W2 hg2 hr2
  have bX:=(BoxT.new W1 x).kept hg2 (fun e=>by cases e;omega)
  have bO2:=(bO1.alloc (.cells #[.int .i64 x.1,.int .i64 x.2] 78)).kept hg2 (fun e=>by cases e;omega)
  have hR2:Hid (RowT W2 w.heap.size va L vc pre):=(hR1.alloc _).turned hg2 (fun k hk=>(HZ.out k (HIN.out k hk)).2.2)
  have hB2:Hid (Below w.heap.size w W2):=zd2 (hB1.alloc (Nat.le_trans (Nat.le_refl _) hB1.size) _) (Nat.le_refl _) hg2 (fun k e=>by cases e;omega)
  have HZ2:Hid (∀ k,Z k→k<W2.heap.size):=fun k hk=>by have h1:=(HZ.out k hk).2.1;have h2:=hg2.size;simp at h2;omega
  have hws:w.heap.size≤W2.heap.size:=hB2.out.size
  clear bO1 hB1 hg2 hr2 hR1
  have cO:=bO2.cell
  have c0:=bX.cell0
  have c1:=bX.cell1
  gi_wp2_with (gi_at_builtin;refine wpListIn_append_own_at _ rfl _ _ 25 rfl w.heap.size 78 i0 (.agg #[.int .i64 0,.int .i64 0]) 2 16 Try.underlying25 hi hz0 hz1 hz2 rfl (by decide) (.slice va L vc) L (za8 pre) rfl (hR2.out.alloc _) ⟨W2.heap.size,0,none⟩ 1 1 [.int .i64 x.1,.int .i64 x.2] rfl rfl (zde W2 [.int .i64 x.1,.int .i64 x.2] 78) two_one (by unfold maxLen;omega) (by omega) (by simp;omega) ?_;intro v' w2 hown' hgrow _ hat;obtain ⟨va',vc',rfl,hv1,hv2,hr2,hM,hin2,hga,_⟩:=coll_step (R:=R) (Z:=Z) (b:=W0.heap.size) bO2 (by omega) (fun h=>by have:=HRW.out _ h;omega) hR2.out (fun k hk=>.inl (HIN.out k hk)) HZ2.out hown' hgrow hat;have hc1:=hv1.cell;have hf1:=hv1.frozen;have HG:Hid (W2.grownBy w2 (Value.slice va L vc).ownBlock):=hga;have HV:Hid (_∧_∧_∧_):=⟨hv2,hr2,hM,hin2⟩;clear hown' hgrow hat hga hv2 hr2 hM hin2)
  obtain ⟨g1,g2,g3,g4⟩:=HV.out
  refine ⟨_,g3,va',vc',by rw [HLN.out];exact g1,by rw [HLN.out];exact g2,fun k hk=>?_,(zd2 hB2.out (Nat.le_refl _) HG.out (fun k e=>?_)).setCell (p:=⟨w.heap.size,0,none⟩) (Nat.le_refl _) _⟩
  · rcases g4 k hk with h|h
    · exact h
    · rcases zcj g2 with ⟨e,_⟩|⟨g,e,_,hBg,hlt,cur,c,hh⟩
      · obtain ⟨_,_,e'⟩:=hk;rw [e] at e';cases e'
      · obtain ⟨_,_,e'⟩:=hk;rw [e] at e';cases e'
        have h3:k=w.heap.size:=by omega
        subst h3
        rw [show (w2.setCell _ _).heap[w.heap.size]? = _ from g1] at hh;cases hh
  · rcases zcj hR2.out with ⟨_,e'⟩|⟨g,_,e',hBg,_⟩
    · rw [e'] at e;cases e
    · rw [e'] at e;cases e;exact hBg
 case done =>
  rintro D ys Z W hD hz rfl ⟨va,vc,bO1,hR1,hin,hB1⟩ hK
  have cO:=bO1.cell
  clear bO2 hB2
  gi_wp2
  refine ⟨by simp,.inl ⟨_,_,rfl,run_takeDeferred hK,?_⟩⟩
  refine ⟨_,results_tmp rfl _ _ _,va,vc,rfl,?_,hB1.trans (belowK_b (w:=w) (Nat.le_refl _) _ D _ _ (by omega) hK rfl rfl)⟩
  exact ownsRow_putObj hR1 _ hK rfl
 case stop =>
  rintro D c pre Z W hD hz hpre h hK
  exact h.elim
set_option maxRecDepth 100000 in
set_option maxHeartbeats 2000000 in
theorem collect_any (Bs Bl:Nat) (gs:List Tm) (R:Nat→Prop) (Sp:List Tm→Prop) (w:World) (hlen:gs.length*16≤140737488355328) (hRw:∀ k,R k→k<w.heap.size)
 (hseq:zch Fence.wide 5 Try.prog 90 #[.pointer (some ⟨Bs,0,none⟩),.pointer (some ⟨Bl,0,none⟩)] (fun x:Tm=>#[Value.agg #[.int .i64 x.1,.int .i64 x.2]]) R (fun ys=>ys=gs) Sp (fun q=>q <+: gs) w) :
 Calls Try.prog 85 #[.func (.func 90) #[] #[.pointer (some ⟨Bs,0,none⟩),.pointer (some ⟨Bl,0,none⟩)]] w fun e W'=>∃ va vc,e=.returned (.slice va gs.length vc)∧RowT W' w.heap.size va gs.length vc gs∧Below w.heap.size w W':=by
 have c:=zhi Bs Bl gs R Sp w hlen hRw hseq
 clear hseq
 go_enter Try.func85,Try.ntmps85
 go_wp2_with (go_at_call 89;refine c.mono ?_;rintro e w1 ⟨va,vc,rfl,hR,hB1⟩)
 go_ret
 exact ⟨va,vc,rfl,hR,hB1⟩
set_option maxRecDepth 100000 in
set_option maxHeartbeats 2000000 in
theorem gaps_any (A:Option Addr) (cap:Nat) (ts:List Tm) (s:Tm) (w:World) (hT:za0 w A ts) (hlen:(ts.length+1)*16≤140737488355328) :
 Calls Try.prog 77 #[.slice A ts.length cap,tmV s] w fun e W'=>∃ va vc,e=.returned (.slice va (gapsV ts s).length vc)∧RowT W' w.heap.size va (gapsV ts s).length vc (gapsV ts s)∧Below w.heap.size w W':=by
 have bS:=BoxT.new w s
 have hB0:Below w.heap.size w (w.alloc (.cells #[.int .i64 s.1,.int .i64 s.2] 78)):=(Below.refl _ w).alloc (Nat.le_refl _) _
 have cC:=check_any A cap ts _ (hT.later hB0)
 cases hc:chk (-1) ts with
 | false =>
  have hE:errI ts=60:=by simp [errI,hc]
  have hN:Hid (gapsV ts s=[]):=by unfold Hid gapsV;rw [if_neg (by rw [hc];decide)]
  rw [hE] at cC
  clear hE hc
  go_enter Try.func77,Try.ntmps77
  go_wp2_with (go_at_call 52;refine cC.mono ?_;rintro e w1 ⟨rfl,hB1⟩)
  go_ret
  exact ⟨none,0,by rw [hN.out];rfl,by rw [hN.out];exact RowT.nil _ _,hB0.trans (hB1.mono (by simp))⟩
 | true =>
  have hE:errI ts=0:=by simp [errI,hc]
  have hN:Hid (gapsV ts s=gapsL ts s.1 s.2):=by unfold Hid gapsV;rw [if_pos hc]
  rw [hE] at cC
  clear hE hc
  obtain ⟨gs,hgs⟩:∃ gs,gapsL ts s.1 s.2=gs:=⟨_,rfl⟩
  have hgl:gs.length*16≤140737488355328:=by have:=zef ts s.1 s.2;rw [hgs] at this;omega
  have cG:∀ w1,Below w.heap.size w w1→Calls Try.prog 85 #[.func (.func 90) #[] #[.pointer (some ⟨w1.heap.size+1,0,none⟩),.pointer (some ⟨w1.heap.size,0,none⟩)]] ((w1.alloc (.cells #[.slice A ts.length cap] 25)).alloc (.cells #[.int .i64 s.1,.int .i64 s.2] 78)) fun e W'=>∃ va vc,e=.returned (.slice va gs.length vc)∧RowT W' w.heap.size va gs.length vc gs∧Below w.heap.size w W':=by
   intro w1 hB1
   have hs1:=hB1.size
   have bL2:=(Boxed.new w1 25 (.slice A ts.length cap)).alloc (.cells #[.int .i64 s.1,.int .i64 s.2] 78)
   have bS2:=BoxT.new (w1.alloc (.cells #[.slice A ts.length cap] 25)) s
   have hB2:Below w.heap.size w ((w1.alloc (.cells #[.slice A ts.length cap] 25)).alloc (.cells #[.int .i64 s.1,.int .i64 s.2] 78)):=(hB1.alloc (by omega) _).alloc (by simp;omega) _
   have bS3:BoxT ((w1.alloc (.cells #[.slice A ts.length cap] 25)).alloc (.cells #[.int .i64 s.1,.int .i64 s.2] 78)) (w1.heap.size+1) s:=by simpa using bS2
   have hm:=miss_deep 5 (w1.heap.size+1) w1.heap.size cap A ts s w _ hT hB2 bL2.cell bS3
   rw [hgs] at hm
   refine (collect_any (w1.heap.size+1) w1.heap.size gs _ _ _ hgl (fun k hk=>?_) hm).mono ?_
   · simp only [World.size_alloc];rcases hk with hk|hk<;>omega
   · rintro e W' ⟨va,vc,rfl,hR,hB⟩
     exact ⟨va,vc,rfl,hR.mono (by simp;omega),hB2.trans (hB.mono (by simp;omega))⟩
  have HGS:Hid (gapsL ts s.1 s.2=gs):=hgs
  clear hgs
  go_enter Try.func77,Try.ntmps77
  go_wp2_with (first
   | (go_at_call 52;refine cC.mono ?_;rintro e w1 ⟨rfl,hB1⟩;have bS1:=bS.below hB1 (by simp<;>omega);have s0:=bS1.cell0;have s1:=bS1.cell1;have HB1:Hid (Below w.heap.size w w1):=hB0.trans (hB1.mono (by simp)))
   | (go_at_call 86;refine (callsIn_wide.1 (missing_in Fence.wide 3 trivial rfl _ _ _ s _)).mono ?_;rintro e w' ⟨rfl,rfl⟩)
   | (go_at_call 85;refine (cG _ HB1.out).mono ?_;rintro e w3 ⟨va,vc,rfl,hR,hB3⟩))
  go_ret
  exact ⟨va,vc,by rw [hN.out,HGS.out];rfl,by rw [hN.out,HGS.out];exact hR,hB3⟩
end Go.Proofs.Ytkigcdmlkmcdcaa
/- The small functions; slices.Clone, Grow and Concat at spans. -/
namespace Go.Proofs.Ytkigcdmlkmcdcaa
open Go.ChangeShapes Go.WideShapes Go.ChangeAt Go.RowKit Go.Shelf
set_option linter.unusedVariables false
theorem elemS:Try.prog.elem 25=78:=by kernel_rfl
theorem underS:Try.prog.underlying 25=some (.slice (Try.prog.elem 25)):=by rw [elemS];exact Try.underlying25
theorem sizeS (w:World):(sizeOf (Try.prog.elem 25)).run Try.prog w=.ok 2 w:=by kernel_rfl
theorem sl_upto (a:Option Addr) (n c h:Nat) (hi:Int) (hh:hi=(h:Int)) (h2:h≤c) (w:World) :
 (Instr.slice 25 (.slice a n c) none (some (.int .i64 hi)) none).run Try.prog w=.ok (.slice a h c) w:=by
 subst hh
 rw [run_slice_h w 25 a n c underS .i64 h (by omega) (by omega),sizeS]
 cases a with
 | none=>simp [sliced]
 | some x=>simp [sliced,Addr.add]
theorem zgq (z:Array Value) (n:Nat):(Builtin.zeroCells z n).size=n*z.size:=by simp [Builtin.zeroCells]
theorem nil_eqlS (a:Option Addr) (n c:Nat) (w:World):(binOp .eql 25 (.slice a n c) (.slice none 0 0)).run Try.prog w=.ok (.bool a.isNone) w:=by
 cases a<;>kernel_rfl
set_option maxRecDepth 100000 in
set_option maxHeartbeats 2000000 in
theorem cloneS_any (A:Option Addr) (cap:Nat) (ts:List Tm) (w:World) (hT:za0 w A ts) (hA:A=none→cap=0) (hb:ts.length*16≤140737488355328) :
 Calls Try.prog 56 #[.slice A ts.length cap] w fun e W'=>∃ va vc,e=.returned (.slice va ts.length vc)∧RowT W' w.heap.size va ts.length vc ts∧Below w.heap.size w W':=by
 have hnil:=nil_eqlS
 cases A with
 | none =>
  have hl:ts=[]:=by
   cases ts with
   | nil=>rfl
   | cons a r=>obtain ⟨_,_,e,_⟩:=hT.2 0 (by simp);cases e
  have hc:=hA rfl
  subst hl;subst hc
  go_enter Try.func56,Try.ntmps56
  go_wp2
  go_ret
  exact ⟨none,0,rfl,RowT.nil _ _,Below.refl _ _⟩
 | some ad =>
  obtain ⟨va1,vc1,w1,r1,R1,g1⟩:=zfz (w.alloc (.cells #[] 78)) w.heap.size _ 0 0 [] (zen w w.heap.size (Nat.le_refl _)) (by simp) (some ad) cap ts (hT.alloc _) hA (by omega)
  have b0:Below w.heap.size w (w.alloc (.cells #[] 78)):=(Below.refl _ w).alloc (Nat.le_refl _) _
  have hB1:Below w.heap.size w w1:=za4 b0 (by simp) (zen w w.heap.size (Nat.le_refl _)) g1
  rw [Nat.zero_add] at r1
  rw [Nat.zero_add,List.nil_append] at R1
  have HR1:Hid (_=_):=r1
  have HF:Hid (RowT w1 w.heap.size va1 ts.length vc1 ts∧Below w.heap.size w w1):=⟨R1,hB1⟩
  obtain ⟨n,hn⟩:∃ n,ts.length=n:=⟨_,rfl⟩
  rw [hn] at HR1 HF ⊢
  clear r1 R1 hB1 g1 b0 hT hn hb hA
  go_enter Try.func56,Try.ntmps56
  go_wp2_with (at_builtin;refine Lib.wpList_append_run (w.alloc (.cells #[] 78)) rfl (.tmp 5) (.tmp 6) 25 25 rfl (.slice (some ⟨w.heap.size,0,none⟩) 0 0) (.slice (some ad) n cap) rfl rfl (.slice va1 n vc1) w1 HR1.out ?_)
  go_ret
  exact ⟨va1,vc1,rfl,HF.out.1,HF.out.2⟩
set_option maxRecDepth 100000 in
set_option maxHeartbeats 2000000 in
theorem grow_any (n:Nat) (w:World) (h0:0<n) (hb:n*16≤140737488355328) :
 Calls Try.prog 83 #[.slice none 0 0,.int .i64 n] w fun e W'=>∃ va vc,e=.returned (.slice va 0 vc)∧RowT W' w.heap.size va 0 vc []∧Below w.heap.size w W':=by
 obtain ⟨i0,hi0,hz0,hz1,hz2⟩:=info_parts Try.info78
 obtain ⟨G,hG⟩:∃ G,grownCap w n 0 78=G:=⟨_,rfl⟩
 have hGn:n≤G:=by rw [← hG];exact grownCap_ge w _ _ _
 have hGm:G≤maxLen:=by rw [← hG];exact grownCap_le_maxLen w n 0 78 (by unfold maxLen;omega)
 have hrz:∀ ty,(Builtin.append_ #[25,3] ty #[.slice none 0 0,.int .i64 (n:Int)]).run Try.prog w=.ok (.slice (some ⟨w.heap.size,0,none⟩) n G) (w.drew.alloc (.cells (Builtin.zeroCells (Value.agg #[.int .i64 0,.int .i64 0]).cells n++Builtin.zeroCells (Value.agg #[.int .i64 0,.int .i64 0]).cells (G-n)) 78)):=fun ty=>by
  have h:=Lib.run_append_nil_zeros w 25 3 ty 78 i0 _ .i64 .i64 Try.underlying25 Try.underlying3 hi0 hz0 n h0 (by omega) (by omega) (by rw [hz2];omega)
  rw [hG] at h
  exact h
 obtain ⟨ROW,hROW⟩:∃ ROW:List Value,Builtin.zeroCells (Value.agg #[.int .i64 0,.int .i64 0]).cells n++Builtin.zeroCells (Value.agg #[.int .i64 0,.int .i64 0]).cells (G-n)=ROW.toArray:=⟨_,rfl⟩
 have hRl:ROW.length=G*2:=by
  have h1:=congrArg Array.size hROW
  simp only [Array.size_append,zgq,List.size_toArray] at h1
  have h2:(Value.agg #[.int .i64 0,.int .i64 0]).cells.size=2:=rfl
  rw [h2] at h1
  omega
 rw [hROW] at hrz
 obtain ⟨W1,hW1⟩:∃ W1,w.drew.alloc (.cells ROW.toArray 78)=W1:=⟨_,rfl⟩
 rw [hW1] at hrz
 have hN1:W1.heap[w.heap.size]? = some (.cells ROW.toArray 78 (0,0)):=by rw [← hW1];exact World.alloc_heap_new w.drew _
 have hBo:Below w.heap.size w W1:=by rw [← hW1];exact ((Below.refl _ w).drew).alloc (Nat.le_refl _) _
 have HF:Hid (RowT W1 w.heap.size (some ⟨w.heap.size,0,none⟩) 0 G []∧Below w.heap.size w W1):=⟨row_mk (cur:=ROW) (Nat.le_refl _) hN1 (by omega) hGm hRl rfl rfl,hBo⟩
 have HZ:Hid (∀ ty,(Builtin.append_ #[25,3] ty #[.slice none 0 0,.int .i64 (n:Int)]).run Try.prog w=.ok (.slice (some ⟨w.heap.size,0,none⟩) n G) W1):=hrz
 have e1:=sl_upto none 0 0 0 0 rfl (by omega)
 have e2:=sl_upto (some ⟨w.heap.size,0,none⟩) n G 0 0 rfl (by omega)
 obtain ⟨N,hN⟩:∃ N,w.heap.size=N:=⟨_,rfl⟩
 have HN:Hid (w.heap.size=N):=hN
 rw [hN] at HZ e2 HF
 clear hrz hW1 hN1 hBo hRl hROW hG hGm hi0 hz0 hz1 hz2 hN
 go_enter Try.func83,Try.ntmps83
 go_wp2_with (at_builtin;refine Lib.wpList_append_run _ rfl _ _ _ _ rfl _ _ rfl rfl _ _ (HZ.out _) ?_)
 go_ret
 exact ⟨_,_,rfl,by rw [HN.out];exact HF.out.1,by rw [HN.out];exact HF.out.2⟩
def cat (ls:Nat→List Tm) (i:Nat):List Tm:=(List.range i).flatMap ls
theorem zfd (ls:Nat→List Tm) (i:Nat):cat ls (i+1)=cat ls i++ls i:=by simp [cat,List.range_succ]
theorem cat_le (ls:Nat→List Tm) {i k:Nat} (h:i≤k):(cat ls i).length≤(cat ls k).length:=by
 induction k with
 | zero=>obtain rfl:i=0:=by omega
         exact Nat.le_refl _
 | succ k ih =>
  rcases Nat.lt_or_ge i (k+1) with h1|h1
  · have:=ih (by omega);rw [zfd,List.length_append];omega
  · obtain rfl:i=k+1:=by omega
    exact Nat.le_refl _
set_option maxRecDepth 100000 in
set_option maxHeartbeats 4000000 in
theorem concat_any (k Bc:Nat) (ads:Nat→Option Addr) (cs:Nat→Nat) (ls:Nat→List Tm) (w:World) (hk:k≤1000) (hcell:∀ j,j<k→w.cell? ⟨Bc,j,none⟩=some (.slice (ads j) (ls j).length (cs j))) (hT:∀ j,j<k→za0 w (ads j) (ls j)) (hA:∀ j,j<k→ads j=none→cs j=0)
 (h0:0<(cat ls k).length) (hb:(cat ls k).length*16≤140737488355328) :
 Calls Try.prog 65 #[.slice (some ⟨Bc,0,none⟩) k k] w fun e W'=>∃ va vc,e=.returned (.slice va (cat ls k).length vc)∧RowT W' w.heap.size va (cat ls k).length vc (cat ls k)∧Below w.heap.size w W':=by
 have HC:Hid (∀ j,j<k→w.cell? ⟨Bc,j,none⟩=some (.slice (ads j) (ls j).length (cs j))):=hcell
 have HT:Hid (∀ j,j<k→za0 w (ads j) (ls j)):=hT
 have HA:Hid (∀ j,j<k→ads j=none→cs j=0):=hA
 have cG:=grow_any (cat ls k).length w h0 hb
 obtain ⟨T,hTt⟩:∃ T,(cat ls k).length=T:=⟨_,rfl⟩
 have HTT:Hid ((cat ls k).length=T):=hTt
 rw [hTt] at h0 hb cG ⊢
 clear hcell hT hA hTt
 go_enter Try.func65,Try.ntmps65
 go_wp2_with fail
 go_loopw [3,11] (fun vs vi wr=>∃ (i S:Nat),vi=.int .i64 i∧vs=.int .i64 S∧i≤k∧S≤T∧w=wr∧Hid ((cat ls i).length=S))
  (fun _ vi _=>k-(intOf vi).toNat)
 case atStart=>exact ⟨0,0,rfl,rfl,Nat.zero_le _,Nat.zero_le _,rfl,by simp [cat,Hid]⟩
 case round =>
  obtain ⟨i,S,rfl,rfl,hik,hST,rfl,HS⟩:=hrel
  by_cases hlt:i<k
  · have hc:=HC.out i hlt
    have hle:=cat_le ls (show i+1≤k by omega)
    have HSN:Hid ((cat ls (i+1)).length=S+(ls i).length):=by unfold Hid;rw [zfd,List.length_append,HS.out]
    rw [HSN.out,HTT.out] at hle
    obtain ⟨n,hn⟩:∃ n,(ls i).length=n:=⟨_,rfl⟩
    rw [hn] at hc hle HSN
    obtain ⟨A,hAA⟩:∃ A,ads i=A:=⟨_,rfl⟩
    rw [hAA] at hc
    obtain ⟨c,hcc⟩:∃ c,cs i=c:=⟨_,rfl⟩
    rw [hcc] at hc
    clear hn hAA hcc
    go_wp2_with fail
    go_roundw
    case rel=>exact ⟨i+1,S+n,by go_num,by go_num,by omega,by omega,by first|rfl|trivial,HSN.out⟩
    case measure=>simp [intOf];omega
  · obtain rfl:i=k:=by omega
    have hSe:S=T:=by rw [← HS.out,HTT.out]
    subst hSe
    go_wp2_with (go_at_call 83;refine cG.mono ?_;rintro e w1 ⟨va,vc,rfl,hR1,hB1⟩)
    go_loopw [6,27] (fun v vi wr=>∃ (j n:Nat) (va:Option Addr) (vc:Nat),vi=.int .i64 j∧v=.slice va n vc∧j≤i∧n≤S∧Hid ((cat ls j).length=n)∧Hid (RowT wr w.heap.size va n vc (cat ls j))∧Hid (Below w.heap.size w wr))
     (fun _ vi _=>i-(intOf vi).toNat)
    case atStart=>exact ⟨0,0,va,vc,rfl,rfl,Nat.zero_le _,Nat.zero_le _,by simp [cat,Hid],hR1,hB1⟩
    case round =>
     obtain ⟨j,n,va,vc,rfl,rfl,hji,hnS,HN,HR,HB⟩:=hrel
     by_cases hlt2:j<i
     · have hc0:=HC.out j hlt2
       have hc:=(HB.out.cell (p:=⟨Bc,j,none⟩) (zac hc0)).trans hc0
       have hle:=cat_le ls (show j+1≤i by omega)
       have HSN:Hid ((cat ls (j+1)).length=n+(ls j).length):=by unfold Hid;rw [zfd,List.length_append,HN.out]
       rw [HSN.out,HTT.out] at hle
       obtain ⟨va',vc',w',hr,hR',hg'⟩:=zfz wr w.heap.size va n vc (cat ls j) HR.out HB.out.size (ads j) (cs j) (ls j) ((HT.out j hlt2).later HB.out) (HA.out j hlt2) (by omega)
       have HR2:Hid (RowT w' w.heap.size va' (n+(ls j).length) vc' (cat ls (j+1))):=by unfold Hid;rw [zfd];exact hR'
       have HB2:Hid (Below w.heap.size w w'):=za4 HB.out HB.out.size HR.out hg'
       have HRN:Hid (_=_):=hr
       obtain ⟨m,hm⟩:∃ m,(ls j).length=m:=⟨_,rfl⟩
       obtain ⟨A,hAA⟩:∃ A,ads j=A:=⟨_,rfl⟩
       obtain ⟨c,hcc⟩:∃ c,cs j=c:=⟨_,rfl⟩
       rw [hm] at hc hle HSN HR2 HRN
       rw [hAA] at hc HRN
       rw [hcc] at hc HRN
       clear hr hR' hg' hc0 hm hAA hcc HR
       go_wp2_with (at_builtin;refine Lib.wpList_append_run wr rfl (.tmp 31) (.tmp 32) 25 25 rfl (.slice va n vc) (.slice A m c) rfl rfl (.slice va' (n+m) vc') w' HRN.out ?_)
       go_roundw
       case rel=>exact ⟨j+1,n+m,va',vc',by go_num,rfl,by omega,by omega,HSN.out,HR2.out,HB2.out⟩
       case measure=>simp [intOf];omega
     · obtain rfl:j=i:=by omega
       have hSe:n=S:=by rw [← HN.out,HTT.out]
       subst hSe
       go_wp2_with fail
       go_ret
       exact ⟨va,vc,rfl,HR.out,HB.out⟩
end Go.Proofs.Ytkigcdmlkmcdcaa
