/- GH: BackI PutI TurnA InTurn. -/
import Derived.Test.YtkigcdmlkmcdcaaQZ
import Derived.Test.YtkigcdmlkmcdcaaQGG
import Derived.Laws.EntriesVeiled
/- The iterator over pieces from the last to the first; inTurn's function. -/
namespace Go.Proofs.Ytkigcdmlkmcdcaa
open Go.ChangeShapes Go.WideShapes Go.ChangeAt Go.RowKit
set_option linter.unusedVariables false
set_option linter.unusedSimpArgs false
open Go.Shelf
attribute [local go_sem] Oper.semAt_some
def revI (n k:Nat):List Nat:=((List.range n).drop k).reverse
theorem rev_all (n:Nat):revI n n=[]:=by unfold revI;rw [List.drop_of_length_le (by simp)];rfl
theorem ze4 {n k:Nat} (h:k<n):revI n k=revI n (k+1)++[k]:=by
 unfold revI
 rw [List.drop_eq_getElem_cons (by simpa using h)]
 simp
theorem zgv {n k j:Nat}:j∈revI n k↔k≤j∧j<n:=by
 unfold revI
 rw [List.mem_reverse,List.mem_drop_iff_getElem]
 constructor
 · rintro ⟨i,h1,h2⟩
   simp at h1 h2
   omega
 · intro h
   exact ⟨j-k,by simp;omega,by simp;omega⟩
theorem zel {n k:Nat} (h:k≤n):revI n k <+: revI n 0:=by
 induction k with
 | zero=>exact List.prefix_refl _
 | succ k ih =>
  have:=ih (by omega)
  rw [ze4 (by omega)] at this
  exact (List.prefix_append _ _).trans this
theorem rev_inj {n:Nat}:∀ {p:List Nat},p <+: revI n 0→∃ k,k≤n∧p=revI n k:=by
 intro p hp
 have hl:(revI n 0).length=n:=by unfold revI;simp
 refine ⟨n-p.length,by omega,?_⟩
 have h1:=hp.length_le
 have h2:(revI n (n-p.length)) <+: revI n 0:=zel (by omega)
 have h3:(revI n (n-p.length)).length=p.length:=by unfold revI;simp;omega
 exact List.prefix_of_prefix_length_le hp h2 (by omega) |>.eq_of_length (by omega)
def encB (es:List En) (j:Nat):Array Value:=#[.int .i64 (j:Int),.agg #[.int .i64 (es[j]?.getD e0).f,.slice (es[j]?.getD e0).a (es[j]?.getD e0).bs.length (es[j]?.getD e0).c]]
set_option maxHeartbeats 1000000 in
theorem back_in (a:Option Addr) (len cap:Nat) (w:World) :
 Calls Try.prog 82 #[.slice a len cap] w fun e w'=>e=.returned (.func (.func 88) #[] #[.pointer (some ⟨w.heap.size,0,none⟩)])∧w'=w.alloc (.cells #[.slice a len cap] 23):=by
 go_enter Try.func82,Try.ntmps82
 go_wp2
 go_ret
 exact ⟨rfl,rfl⟩
set_option maxRecDepth 100000 in
set_option maxHeartbeats 2000000 in
theorem back_deep (n:Nat) (Bs cap N:Nat) (A:Option Addr) (es:List En) (w0 w:World) (hT:za5 w0 A es) (hN:es.length=N) (hml:N≤9223372036854775807) (hw:Below w0.heap.size w0 w) (hBs:w.cell? ⟨Bs,0,none⟩=some (.slice A N cap)) :
 zch Fence.wide n Try.prog 88 #[.pointer (some ⟨Bs,0,none⟩)] (encB es) (fun k=>(lies A k∧k<w0.heap.size)∨k=Bs) (fun ys=>ys=revI N 0) (fun pre=>pre <+: revI N 0) (fun q=>q <+: revI N 0) w:=by
 intro l J Jx W hW hJ hJx hY h0
 have hT0:Hid (za5 w0 A es∧es.length=N):=⟨hT,hN⟩
 have hw1:Hid (Below w0.heap.size w0 W):=hw.trans (hW.mono hw.size)
 have hBs1:W.cell? ⟨Bs,0,none⟩=some (.slice A N cap):=(hW.cell (p:=⟨Bs,0,none⟩) (zac hBs)).trans hBs
 have HBW:Hid (W.cell? ⟨Bs,0,none⟩=some (.slice A N cap)∧Bs<W.heap.size):=⟨hBs1,zac hBs1⟩
 clear hT hBs hW hw hN
 have HJ0:Hid (zdt W.heap.size J):=hJ
 have HY:Hid (∀ _,_):=hY
 clear hJ hJx hY
 have hn1:IntKind.i64.wrap ((N:Int)-1)=(N:Int)-1:=by rw [IntKind.wrap_i64];omega
 refine callsIn_of_wp Try.func88 rfl trivial ?_ rfl
 simp only [Try.ntmps88,List.size_toArray,List.length_cons,List.length_nil,Nat.reduceAdd,Nat.reduceSub,Array.replicate_succ,Array.replicate_zero,List.push_toArray,List.append_toArray,List.nil_append,List.cons_append]
 gi_wp2
 clear hBs1 hn1
 gi_loopw [3] (fun vi wr=>∃ (k:Nat) (v:Int),vi=.int .i64 v∧v=(k:Int)-1∧k≤N∧Hid (∃ Z,J (revI N k) Z wr∧(∀ k,Z k→W.heap.size≤k∧k<wr.heap.size)∧W.heap.size≤wr.heap.size∧(∀ k,k<W.heap.size→((lies A k∧k<w0.heap.size)∨k=Bs)→wr.heap[k]? = W.heap[k]?)))
  (fun vi _=>(intOf vi+1).toNat)
 case atStart=>exact ⟨N,_,rfl,rfl,Nat.le_refl _,by rw [rev_all];exact ⟨_,h0,fun k h=>h.elim,Nat.le_refl _,fun _ _ _=>rfl⟩⟩
 case round =>
  obtain ⟨k,v,rfl,hv,hkN,HJ⟩:=hrel
  cases k with
  | zero =>
   obtain ⟨Z,hj,_⟩:=HJ.out
   have hv0:v<0:=by omega
   clear hv
   gi_wp2
   go_end0
   exact ⟨⟨_,rfl⟩,.inl ⟨_,Z,rfl,hj⟩⟩
  | succ j =>
   obtain rfl:v=(j:Int):=by omega
   clear hv
   obtain ⟨Z,hj,hz,hsz,hk⟩:=HJ.out
   have hjl:j<es.length:=by rw [hT0.out.2];omega
   obtain ⟨x,hx⟩:∃ x,es[j]?.getD e0=x:=⟨_,rfl⟩
   have hxs:es[j]? = some x:=by rw [List.getElem?_eq_getElem hjl] at hx ⊢;simpa using hx
   obtain ⟨b,o,hA,hc,hd⟩:=hT0.out.1 j x hxs
   subst hA
   have hb:wr.heap[b]? = w0.heap[b]?:=(hk b (Nat.lt_of_lt_of_le (zac hc) hw1.out.size) (.inl ⟨⟨_,_,rfl⟩,zac hc⟩)).trans (hw1.out.block b (zac hc))
   have hcx:wr.cell? ⟨b,o+j*2,none⟩=some (.int .i64 x.f):=(World.cell?_of_block (w:=w0) hb).trans hc
   have hdx:wr.cell? ⟨b,o+j*2+1,none⟩=some (.slice x.a x.bs.length x.c):=(World.cell?_of_block (w:=w0) hb).trans hd
   have hsx:wr.cell? ⟨Bs,0,none⟩=some (.slice (some ⟨b,o,none⟩) N cap):=(World.cell?_of_block (w:=W) (hk Bs HBW.out.2 (.inr rfl))).trans HBW.out.1
   obtain ⟨fn,tmps,assign,body,hy,hR⟩:=HY.out (revI N (j+1)) j Z wr hj hsz hz (by rw [← ze4 (by omega)];exact zel (by omega))
   rw [show encB es j=#[.int .i64 (j:Int),.agg #[.int .i64 x.f,.slice x.a x.bs.length x.c]] by unfold encB;rw [hx]] at hy
   have HK:Hid ((∀ k,Z k→W.heap.size≤k∧k<wr.heap.size)∧W.heap.size≤wr.heap.size∧(∀ k,k<W.heap.size→((lies (some ⟨b,o,none⟩) k∧k<w0.heap.size)∨k=Bs)→wr.heap[k]? = W.heap[k]?)):=⟨hz,hsz,hk⟩
   have hj0:(0:Int)≤(j:Int):=by omega
   have hjN:(j:Int)<(N:Int):=by omega
   have hjN2:j<N:=by omega
   have hw2:IntKind.i64.wrap ((j:Int)-1)=(j:Int)-1:=by rw [IntKind.wrap_i64];omega
   clear hx hxs hc hd hz hsz hk hj HJ hb hjl
   gi_wp2
   refine ⟨fun h=>by simp [Fence.wide] at h,hR.mono ?_⟩
   rintro e W3 ⟨Z',hM,(⟨rfl,hJ3⟩|⟨rfl,hJx3⟩)⟩
   · have HN:Hid (∃ Z,J (revI N j) Z W3∧(∀ k,Z k→W.heap.size≤k∧k<W3.heap.size)∧W.heap.size≤W3.heap.size∧(∀ k,k<W.heap.size→((lies (some ⟨b,o,none⟩) k∧k<w0.heap.size)∨k=Bs)→W3.heap[k]? = W.heap[k]?)):=by
      obtain ⟨hz,hsz,hk⟩:=HK.out
      have h1:=hM.flat.size
      refine ⟨Z',by rw [ze4 (by omega)];exact hJ3,fun k hk'=>⟨?_,hM.lt k hk'⟩,by omega,fun k hkl hk'=>?_⟩
      · rcases hM.new k hk' with h|h
        · exact (hz k h).1
        · omega
      · exact (hM.same k (by omega) (.inl hk') (fun h=>by have:=(hz k h).1;omega)).trans (hk k hkl hk')
     clear hM hJ3 HK
     gi_wp2
     go_roundw
     case rel=>exact ⟨j,_,rfl,by first|rfl|omega,by omega,HN.out⟩
     case measure=>simp [intOf]
   · clear hM
     gi_wp2
     refine bodyPost_ret (results_none rfl _ _ _) rfl ?_
     exact ⟨⟨_,rfl⟩,.inr ⟨_,Z',by rw [← ze4 (by omega)];exact zel (by omega),hJx3⟩⟩
theorem step_appT {w:World} {ops:Array Oper} {o:Oper} {a:Act} {K:Act→World→Prop} {Q:Exit→Act→World→Prop} {E:Prop} (hgd:o.guard=none) (s x:Operand)
 (ho:o.op=.call { callee:=.builtin .append,args:=#[s,x],argTypes:=#[25,25]})
 (B:Nat) (va:Option Addr) (n vc:Nat) (xs:List Tm) (A:Addr) (y:Tm) (hs:a.eval s=.slice va n vc) (hx:a.eval x=.slice (some A) 1 1)
 (hO:RowT w B va n vc xs) (hB:B≤w.heap.size) (hT:∀ j u,[Value.int .i64 y.1,Value.int .i64 y.2][j]? = some u→w.cell? (A.add j)=some u) (hb:(n+1)*16≤140737488355328)
 (h:∀ va' vc' w',RowT w' B va' (n+1) vc' (xs++[y])→w.grownBy w' (Value.slice va n vc).ownBlock→(∀ k,lies va' k→lies va k∨w.heap.size≤k)→K (a.put o.dst (.slice va' (n+1) vc')) w') :
 if Region.wanted o (yielded ops a.tmps)=true then Oper.wp Try.prog o a w K Q else E:=by
 have hw:Region.wanted o (yielded ops a.tmps)=true:=by simp [Region.wanted,hgd]
 rw [if_pos hw]
 obtain ⟨i0,hi,hz0,hz1,hz2⟩:=info_parts Try.info78
 obtain ⟨v',w',hr,h1,h2,_,h5⟩:=run_append_own_at (P:=Try.prog) w B 25 o.type 78 i0 (.agg #[.int .i64 0,.int .i64 0]) 2 16 Try.underlying25 hi hz0 hz1 hz2 rfl (by decide) _ n _ hO A 1 1 [.int .i64 y.1,.int .i64 y.2] rfl hT two_one (by unfold maxLen;omega) hb hB
 rw [← zfj] at h1
 obtain ⟨va',vc',rfl,hR⟩:=rowT_of h1
 unfold Oper.wp execOp
 simp only [ho,resolve,invoke,builtin,Sem.run_bind,Sem.run_pure,Result.andThen_ok,List.map_toArray,List.map_cons,List.map_nil,hs,hx,hr]
 refine h va' vc' w' hR h2 (fun k hk=>?_)
 rw [zdl hR hk] at h5
 rcases h5 with h|h
 · exact .inl (za6 h.symm)
 · cases h;exact .inr (Nat.le_refl _)
set_option maxRecDepth 100000 in
set_option maxHeartbeats 4000000 in
theorem put_old (Bo bs bf g sb n i:Nat) (ms:List Bool) (w:World) (hbs:Boxed w bs 84 (.slice (some ⟨sb,0,none⟩) n n)) (hm:RowM w Bo sb n ms) (hi:i<n) (hf:ms[i]?.getD false=true) :
 Calls Try.prog 81 #[.int .i64 (i:Int),.pointer (some ⟨bs,0,none⟩),.pointer (some ⟨bf,0,none⟩),.pointer (some ⟨g,0,none⟩)] w fun e w'=>(∃ v,e=.returned v)∧Below w.heap.size w w':=by
 have c0:=hbs.cell
 have c1:=hm.cell i hi
 rw [hf] at c1
 have h1:(i:Int)<(n:Int):=by omega
 clear hbs hm hf
 go_enter Try.func81,Try.ntmps81
 go_wp2
 go_end0
 exact ⟨⟨_,rfl⟩,Below.refl _ _⟩
set_option maxRecDepth 100000 in
set_option maxHeartbeats 4000000 in
theorem put_new (Bo bs bf g sb n i L vc lc:Nat) (va:Option Addr) (ms:List Bool) (out:List Tm) (cs:List Value) (pb po:Nat) (y:En) (t:Int) (w:World) (hbs:Boxed w bs 84 (.slice (some ⟨sb,0,none⟩) n n)) (hbf:Boxed w bf 25 (.slice va L vc)) (hg:Box w g 27 cs) (hcs:cs[2]? = some (.slice (some ⟨pb,po,none⟩) n lc)) (hm:RowM w Bo sb n ms) (ht:RowT w Bo va L vc out) (hBo:Bo≤w.heap.size) (hi:i<n) (hf:ms[i]?.getD false=false)
 (hy0:w.cell? ⟨pb,po+i*2,none⟩=some (.int .i64 y.f)) (hy1:w.cell? ⟨pb,po+i*2+1,none⟩=some (.slice y.a y.bs.length y.c)) (hpb:pb<Bo) (hfb:Bo≤bf) (hwt:wrap64 (y.f+(y.bs.length:Int))=t) (hL:(L+1)*16≤140737488355328) :
 Calls Try.prog 81 #[.int .i64 (i:Int),.pointer (some ⟨bs,0,none⟩),.pointer (some ⟨bf,0,none⟩),.pointer (some ⟨g,0,none⟩)] w fun e w'=>(∃ v,e=.returned v)∧∃ va' vc',Boxed w' bf 25 (.slice va' (L+1) vc')∧RowM w' Bo sb n (ms.set i true)∧RowT w' Bo va' (L+1) vc' (out++[(y.f,t)])∧Chg (fun k=>k=sb∨k=bf∨lies va k) w w'∧(∀ k,lies va' k→lies va k∨w.heap.size≤k):=by
 have hsbge:=hm.ge
 obtain ⟨_,_,_,cur4,hsb4⟩:=zaj hm (k:=sb) ⟨_,_,rfl⟩
 obtain ⟨W1,hW1⟩:∃ W1,w.setCell ⟨sb,i,none⟩ (.bool true)=W1:=⟨_,rfl⟩
 have hs1:W1.heap.size=w.heap.size:=by rw [← hW1];simp [World.setCell]
 have ho1:∀ k,k≠sb→W1.heap[k]? = w.heap[k]?:=fun k hk=>by rw [← hW1];exact Below.heap_setCell w ⟨sb,i,none⟩ _ k hk
 have hm1:RowM W1 Bo sb n (ms.set i true):=by rw [← hW1];exact hm.set i true
 have hne:∀ (k:Nat) (e:TypeId),e≠4→(∃ cur fr,w.heap[k]? = some (.cells cur e fr))→k≠sb:=fun k e he ⟨cur,fr,h1⟩ h2=>by subst h2;exact he (za2 h1 hsb4)
 have hbf1:Boxed W1 bf 25 (.slice va L vc):=(ho1 bf (hne bf 25 (by decide) ⟨_,_,hbf⟩)).trans hbf
 have hg1:Box W1 g 27 cs:=(ho1 g (hne g 27 (by decide) ⟨_,_,hg⟩)).trans hg
 have ht1:RowT W1 Bo va L vc out:=zaz ht (fun k hk hl=>by
  obtain ⟨_,_,_,cur,e⟩:=zaj ht hl
  exact ho1 k (hne k 78 (by decide) ⟨_,_,e⟩))
 have hy01:W1.cell? ⟨pb,po+i*2,none⟩=some (.int .i64 y.f):=(World.cell?_of_block (w:=w) (ho1 pb (by omega))).trans hy0
 have hy11:W1.cell? ⟨pb,po+i*2+1,none⟩=some (.slice y.a y.bs.length y.c):=(World.cell?_of_block (w:=w) (ho1 pb (by omega))).trans hy1
 have hpw:pb<W1.heap.size:=by omega
 have cS:=fun W=>zbu y.f y.a y.bs.length y.c W t hwt
 obtain ⟨S,hS⟩:∃ S:World→Prop,S=fun W=>W.cell? ⟨bf,0,none⟩=some (.slice va L vc)∧W.cell? ⟨g,2,none⟩=some (.slice (some ⟨pb,po,none⟩) n lc)∧W.cell? ⟨pb,po+i*2,none⟩=some (.int .i64 y.f)∧W.cell? ⟨pb,po+i*2+1,none⟩=some (.slice y.a y.bs.length y.c):=⟨_,rfl⟩
 have HSK:Hid (∀ W,Below W1.heap.size W1 W→S W):=fun W hW=>by
  rw [hS]
  exact ⟨(zcg hbf1 hW hbf1.lt).cell,(hg1.later hW).cell 2 hcs,(World.cell?_of_block (w:=W1) (hW.block pb hpw)).trans hy01,(World.cell?_of_block (w:=W1) (hW.block pb hpw)).trans hy11⟩
 have HA:Hid (Boxed W1 bf 25 (.slice va L vc)∧Box W1 g 27 cs∧RowM W1 Bo sb n (ms.set i true)∧RowT W1 Bo va L vc out∧Chg (fun k=>k=sb∨k=bf∨lies va k) w W1∧Bo≤W1.heap.size∧W1.heap.size=w.heap.size∧pb<W1.heap.size∧W1.cell? ⟨pb,po+i*2,none⟩=some (.int .i64 y.f)∧W1.cell? ⟨pb,po+i*2+1,none⟩=some (.slice y.a y.bs.length y.c)):=⟨hbf1,hg1,hm1,ht1,by rw [← hW1];exact Chg.set _ _ _ _ (.inl rfl),by omega,hs1,hpw,hy01,hy11⟩
 have c0:=hbs.cell
 have c1:=hm.cell i hi
 rw [hf] at c1
 have f1:=hm.frozen i
 have h1:(i:Int)<(n:Int):=by omega
 clear hbs hbf hg hm ht hsb4 hs1 ho1 hm1 hne hbf1 hg1 ht1 hy01 hy11 hpw hy0 hy1 hwt hf hsbge
 go_enter Try.func81,Try.ntmps81
 go_upto_region 2 with fail
 try rw [hW1]
 clear hW1 c0 c1 f1
 obtain ⟨y0,y1,y2,y3,y4,y5⟩:(∀ {ps} (ev:EV),ev (.tmp 2)=.pointer (some ⟨bf,0,none⟩)→Yl Try.prog S ev ⟨some 13,.load 25 (.tmp 2),25,ps,#[],none⟩ ((.slice va L vc)))∧(∀ {ps} (ev:EV),ev (.tmp 3)=.pointer (some ⟨g,0,none⟩)→Yl Try.prog S ev ⟨some 14,.fieldAddr 27 (.tmp 3) 2,0,ps,#[],none⟩ ((.pointer (some ⟨g,2,none⟩))))∧(∀ {ps} (ev:EV),ev (.tmp 14)=.pointer (some ⟨g,2,none⟩)→Yl Try.prog S ev ⟨some 15,.load 23 (.tmp 14),23,ps,#[⟨1,.data⟩],none⟩ ((.slice (some ⟨pb,po,none⟩) n lc)))∧(∀ {ps} (ev:EV),ev (.tmp 0)=.int .i64 (i:Int)→Yl Try.prog S ev ⟨some 16,.move (.tmp 0),3,ps,#[],none⟩ ((.int .i64 (i:Int))))∧(∀ {ps} (ev:EV),ev (.tmp 15)=.slice (some ⟨pb,po,none⟩) n lc→ev (.tmp 16)=.int .i64 (i:Int)→Yl Try.prog S ev ⟨some 17,.indexAddr 23 (.tmp 15) (.tmp 16),0,ps,#[⟨2,.data⟩,⟨3,.data⟩],none⟩ ((.pointer (some ⟨pb,po+i*2,none⟩))))∧(∀ {ps} (ev:EV),ev (.tmp 17)=.pointer (some ⟨pb,po+i*2,none⟩)→Yl Try.prog S ev ⟨some 18,.load 74 (.tmp 17),74,ps,#[⟨4,.data⟩],none⟩ ((.agg #[.int .i64 y.f,.slice y.a y.bs.length y.c]))):=by
  refine ⟨?_,?_,?_,?_,?_,?_⟩<;>(intros;intro W hSw;rw [hS] at hSw;(try dsimp only at hSw);go_simp<;>with_reducible rfl)
 refine zaq S 9 (by kernel_rfl) (HSK.out _ (by repeat (first|with_reducible exact Below.refl _ _|with_reducible assumption|with_reducible refine Below.drew ?_|with_reducible refine zad ?_ _|with_reducible refine zaa ?_ _))) (fun hHeld=>?_)
 refine zk 0 (y0 _ rfl) ?_
 try simp only [Act.put,qA,qZ,qS]
 refine zk 1 (y1 _ rfl) ?_
 try simp only [Act.put,qA,qZ,qS]
 refine zk 2 (y2 _ rfl) ?_
 try simp only [Act.put,qA,qZ,qS]
 refine zk 3 (y3 _ rfl) ?_
 try simp only [Act.put,qA,qZ,qS]
 refine zk 4 (y4 _ rfl rfl) ?_
 try simp only [Act.put,qA,qZ,qS]
 refine zk 5 (y5 _ rfl) ?_
 try simp only [Act.put,qA,qZ,qS]
 refine zah (i:=6) (o:=⟨some 19,.call { callee:=.value (.func 55),args:=#[.tmp 18],argTypes:=#[74]},78,_,#[⟨5,.data⟩],none⟩) (by kernel_rfl) rfl (fun K hK=>?_)
 rw [if_pos (by rfl)]
 go_simp
 refine (cS _).mono ?_
 rintro e w1 ⟨rfl,hB1⟩
 have hb1:Below W1.heap.size W1 w1:=Below.on (by repeat (first|with_reducible exact Below.refl _ _|with_reducible assumption|with_reducible refine Below.drew ?_|with_reducible refine zad ?_ _|with_reducible refine zaa ?_ _)) hB1
 refine hK.out _ _ ⟨fun _=>HSK.out _ hb1,?_⟩
 clear hK K hHeld
 try simp only [Act.put,qA,qZ,qS]
 refine zah (i:=7) (o:=⟨some 20,.buildSlice 25 1 #[(0,.tmp 19)],25,_,#[⟨6,.data⟩],none⟩) (by kernel_rfl) rfl (fun K hK=>?_)
 rw [if_pos (by rfl)]
 go_simp
 refine hK.out _ _ ⟨fun _=>HSK.out _ (by repeat (first|with_reducible exact Below.refl _ _|with_reducible assumption|with_reducible refine Below.drew ?_|with_reducible refine zad ?_ _|with_reducible refine zaa ?_ _)),?_⟩
 clear hK K
 try simp only [Act.put,qA,qZ,qS]
 have hbY:Below W1.heap.size W1 (w1.alloc (.cells #[.int .i64 y.f,.int .i64 t] 78)):=zaa hb1 _
 obtain ⟨Y,hY⟩:∃ Y,w1.alloc (.cells #[.int .i64 y.f,.int .i64 t] 78)=Y:=⟨_,rfl⟩
 have hcn:∀ j u,[Value.int .i64 y.f,Value.int .i64 t][j]? = some u→Y.cell? ((⟨w1.heap.size,0,none⟩:Addr).add j)=some u:=by rw [← hY];exact zde w1 [.int .i64 y.f,.int .i64 t] 78
 rw [hY] at hbY ⊢
 clear hY
 have htY:=HA.out.2.2.2.1.below hbY (Nat.le_refl _)
 refine zah (i:=8) (o:=⟨some 21,.call { callee:=.builtin .append,args:=#[.tmp 13,.tmp 20],argTypes:=#[25,25]},25,_,#[⟨0,.data⟩,⟨7,.data⟩,⟨6,.chain⟩],none⟩) (by kernel_rfl) rfl (fun K hK=>?_)
 refine step_appT rfl (.tmp 13) (.tmp 20) rfl Bo va L vc out ⟨w1.heap.size,0,none⟩ (y.f,t) rfl rfl htY (by have:=hbY.size;have:=HA.out.2.2.2.2.2.1;omega) hcn (by omega) ?_
 intro va2 vc2 w2 hR2 hg2 hN2
 have hmv:∀ (k:Nat) (e:TypeId),e≠78→(∃ cur fr,Y.heap[k]? = some (.cells cur e fr))→w2.heap[k]? = Y.heap[k]?:=fun k e he ⟨cur,fr,h1⟩=>hg2.block k (Array.getElem?_eq_some_iff.1 h1).1 (fun h2=>by
  obtain ⟨_,_,_,cur2,h3⟩:=zaj htY (za6 h2.symm)
  exact he (za2 h1 h3))
 have hbfY:=zcg HA.out.1 hbY HA.out.1.lt
 have hgY:=HA.out.2.1.later hbY
 have hmY:=HA.out.2.2.1.later hbY
 have hbf2:Boxed w2 bf 25 (.slice va L vc):=(hmv bf 25 (by decide) ⟨_,_,hbfY⟩).trans hbfY
 have hg2':Box w2 g 27 cs:=(hmv g 27 (by decide) ⟨_,_,hgY⟩).trans hgY
 have hm2:RowM w2 Bo sb n (ms.set i true):=zaz hmY (fun k hk hl=>by
  obtain ⟨_,_,_,cur,e⟩:=zaj hmY hl
  exact hmv k 4 (by decide) ⟨_,_,e⟩)
 have hpl:w2.heap[pb]? = W1.heap[pb]?:=(hg2.block pb (by have:=hbY.size;have:=HA.out.2.2.2.2.2.2.2.1;omega) (fun h2=>by
  have:=(zaj htY (za6 h2.symm)).2.1
  omega)).trans (hbY.block pb HA.out.2.2.2.2.2.2.2.1)
 have hS2:S w2:=by
  rw [hS]
  exact ⟨hbf2.cell,hg2'.cell 2 hcs,(World.cell?_of_block (w:=W1) hpl).trans HA.out.2.2.2.2.2.2.2.2.1,(World.cell?_of_block (w:=W1) hpl).trans HA.out.2.2.2.2.2.2.2.2.2⟩
 have HF:Hid (Boxed (w2.setCell ⟨bf,0,none⟩ (.slice va2 (L+1) vc2)) bf 25 (.slice va2 (L+1) vc2)∧RowM (w2.setCell ⟨bf,0,none⟩ (.slice va2 (L+1) vc2)) Bo sb n (ms.set i true)∧RowT (w2.setCell ⟨bf,0,none⟩ (.slice va2 (L+1) vc2)) Bo va2 (L+1) vc2 (out++[(y.f,t)])∧Chg (fun k=>k=sb∨k=bf∨lies va k) w (w2.setCell ⟨bf,0,none⟩ (.slice va2 (L+1) vc2))∧(∀ k,lies va2 k→lies va k∨w.heap.size≤k)):=by
  have hbc:w2.heap[bf]? = some (.cells #[.slice va L vc] 25 (0,0)):=hbf2
  refine ⟨hbf2.set _,zan hm2 hbc (by decide) _ _,zan hR2 hbc (by decide) _ _,((HA.out.2.2.2.2.1.trans (Chg.of_below hbY)).trans (Chg.of_grown hg2 (fun k e=>.inr (.inr (za6 e))))).trans (Chg.set _ _ _ _ (.inr (.inl rfl))),fun k hk=>(hN2 k hk).imp id (fun h=>?_)⟩
  have h1:=hbY.size
  have h2:=HA.out.2.2.2.2.2.2.1
  omega
 have zc:=hbf2.cell
 have zf:=hbf2.frozen
 clear hmv hbfY hgY hmY hbf2 hg2' hm2 hpl hR2 hg2 hN2 htY hcn hbY hb1 hB1
 refine hK.out _ _ ⟨fun _=>hS2,?_⟩
 clear hK K
 try simp only [Act.put,qA,qZ,qS]
 refine zah (i:=9) (o:=⟨none,.store 25 (.tmp 2) (.tmp 21),0,_,#[⟨8,.data⟩,⟨8,.chain⟩,⟨0,.phase⟩,⟨1,.phase⟩,⟨2,.phase⟩,⟨3,.phase⟩,⟨4,.phase⟩,⟨5,.phase⟩,⟨6,.phase⟩,⟨7,.phase⟩,⟨8,.phase⟩],none⟩) (by kernel_rfl) rfl (fun K hK=>?_)
 rw [if_pos (by rfl)]
 go_simp
 refine hK.out _ _ ⟨fun h=>absurd rfl h,?_⟩
 clear hK K
 refine zax (by kernel_rfl) ?_ _
 try simp only [Act.put,qA,qZ,qS]
 clear y0 y1 y2 y3 y4 y5 hS HSK hS2 zc zf
 go_wp2_with fail
 go_end0
 exact ⟨⟨_,rfl⟩,va2,vc2,HF.out⟩
open Go.Shelf
attribute [local go_sem] Oper.semAt_some
theorem lat_inj:∀ {l:List Pl.Pc} {lo:Int} {i j:Nat} {p q:Pl.Pc},Pl.latB lo l→l[i]? = some p→l[j]? = some q→p.1=q.1→i=j
 | [],_,i,_,_,_,_,h,_,_=>by simp at h
 | a::r,lo,0,0,_,_,_,_,_,_=>rfl
 | a::r,lo,0,j+1,p,q,hl,h1,h2,e=>by
  simp at h1 h2
  subst h1
  have:=(zbd hl.2.2 q (List.mem_of_getElem? h2)).1
  have:=Pl.pend_lt hl.2.1
  omega
 | a::r,lo,i+1,0,p,q,hl,h1,h2,e=>by
  simp at h1 h2
  subst h2
  have:=(zbd hl.2.2 p (List.mem_of_getElem? h1)).1
  have:=Pl.pend_lt hl.2.1
  omega
 | a::r,lo,i+1,j+1,p,q,hl,h1,h2,e=>by
  have:=lat_inj hl.2.2 (by simpa using h1) (by simpa using h2) e
  omega
def meets (x e:Int) (p:Pl.Pc):Prop:=Pl.maxJ p.1 x<Pl.minJ (Pl.pend p) e
theorem zex {x e:Int}:∀ {l:List Pl.Pc},(∀ (j:Nat) p,l[j]? = some p→¬meets x e p)→backP l x e=none
 | [],_=>rfl
 | p::r,h=>by
  have ih:=zex (l:=r) (fun j q hq=>h (j+1) q (by simpa using hq))
  rw [backP,ih]
  exact if_neg (h 0 p (by simp))
theorem back_at {x e:Int}:∀ {l:List Pl.Pc} {j:Nat} {p:Pl.Pc},l[j]? = some p→meets x e p→(∀ i q,j<i→l[i]? = some q→¬meets x e q)→backP l x e=some p
 | [],_,_,h,_,_=>by simp at h
 | a::r,0,p,h,hm,hn=>by
  simp at h
  subst h
  have ih:=zex (x:=x) (e:=e) (l:=r) (fun j q hq=>hn (j+1) q (by omega) (by simpa using hq))
  rw [backP,ih]
  exact if_pos hm
 | a::r,j+1,p,h,hm,hn=>by
  have ih:=back_at (l:=r) (j:=j) (by simpa using h) hm (fun i q hi hq=>hn (i+1) q (by omega) (by simpa using hq))
  rw [backP,ih]
structure TnAt (w V:World) (own:Nat→Prop) (cs:List Value) (x e:Int) (n:Nat) (l:List Pl.Pc) (ms:List Bool) (out:List Tm) (va:Option Addr) (vc:Nat):Prop where
 box:Box V w.heap.size 27 cs
 at':Box V (w.heap.size+1) 78 [.int .i64 x,.int .i64 e]
 bf:Boxed V (w.heap.size+2) 25 (.slice va out.length vc)
 bs:Boxed V (w.heap.size+4) 84 (.slice (some ⟨w.heap.size+3,0,none⟩) n n)
 bp:Boxed V (w.heap.size+5) 109 (.func (.func 81) #[] #[.pointer (some ⟨w.heap.size+4,0,none⟩),.pointer (some ⟨w.heap.size+2,0,none⟩),.pointer (some ⟨w.heap.size,0,none⟩)])
 rm:RowM V w.heap.size (w.heap.size+3) n ms
 rt:RowT V w.heap.size va out.length vc out
 mks:∀ (j:Nat) p,l[j]? = some p→(ms[j]?.getD false=decide ((p.1,Pl.pend p)∈out))
 vo:∀ k,lies va k→own k
 vn:∀ k,lies va k→w.heap.size+6≤k
 bel:Below w.heap.size w V
theorem TnAt.mono {w V:World} {own own':Nat→Prop} {cs:List Value} {x e:Int} {n:Nat} {l:List Pl.Pc} {ms:List Bool} {out:List Tm} {va:Option Addr} {vc:Nat} (h:TnAt w V own cs x e n l ms out va vc) (ho:∀ k,own k→own' k):TnAt w V own' cs x e n l ms out va vc:={ h with vo:=fun k hk=>ho k (h.vo k hk)}
theorem TnAt.moved {w V V':World} {own:Nat→Prop} {cs:List Value} {x e:Int} {n:Nat} {l:List Pl.Pc} {ms:List Bool} {out:List Tm} {va:Option Addr} {vc:Nat} (h:TnAt w V own cs x e n l ms out va vc) (hb:Below 0 V V') (hs:∀ k,k<V.heap.size→(k<w.heap.size+6∨own k)→V'.heap[k]? = V.heap[k]?):TnAt w V' own cs x e n l ms out va vc:=by
 have hsz:=h.bel.size
 refine { h with box:=(hs _ h.box.lt (.inl (by omega))).trans h.box,at':=(hs _ h.at'.lt (.inl (by omega))).trans h.at',bf:=(hs _ h.bf.lt (.inl (by omega))).trans h.bf,bs:=(hs _ h.bs.lt (.inl (by omega))).trans h.bs,bp:=(hs _ h.bp.lt (.inl (by omega))).trans h.bp,rm:=zaz h.rm (fun k hk hl=>hs k hk (.inl ?_)),rt:=zaz h.rt (fun k hk hl=>hs k hk (.inr (h.vo k hl))),bel:=⟨hb.os.trans h.bel.os,hb.tape.trans h.bel.tape,hb.output.trans h.bel.output,Nat.le_trans hsz hb.size,fun k hk=>(hs k (by omega) (.inl (by omega))).trans (h.bel.block k hk)⟩}
 obtain ⟨o,s,e⟩:=hl
 cases e
 omega
theorem TnAt.later {w V V':World} {own:Nat→Prop} {cs:List Value} {x e:Int} {n:Nat} {l:List Pl.Pc} {ms:List Bool} {out:List Tm} {va:Option Addr} {vc:Nat} (h:TnAt w V own cs x e n l ms out va vc) (hb:Below V.heap.size V V'):TnAt w V' own cs x e n l ms out va vc:=h.moved (below0 hb) (fun k hk _=>hb.block k hk)
theorem tn_put {w V:World} {own:Nat→Prop} {cs:List Value} {x e:Int} {n:Nat} {l:List Pl.Pc} {ms:List Bool} {out:List Tm} {va:Option Addr} {vc:Nat} (h:TnAt w V own cs x e n l ms out va vc) {la:Option Addr} {lc:Nat} {es:List En} (hP:PcsAt w la lc es) (hl:es.map En.pc=l) (hn:es.length=n) (hF:Fits l) (hcs:cs[2]? = some (.slice la n lc)) (i:Nat) (p:Pl.Pc) (hi:l[i]? = some p) (hL:(out.length+1)*16≤140737488355328) :
 Calls Try.prog 81 #[.int .i64 (i:Int),.pointer (some ⟨w.heap.size+4,0,none⟩),.pointer (some ⟨w.heap.size+2,0,none⟩),.pointer (some ⟨w.heap.size,0,none⟩)] V fun e' V'=>(∃ v,e'=.returned v)∧∃ ms' va' vc',TnAt w V' (fun k=>own k∨(V.heap.size≤k∧k<V'.heap.size)) cs x e n l ms' (putP out (p.1,Pl.pend p)) va' vc'∧Chg (fun k=>k=w.heap.size+3∨k=w.heap.size+2∨lies va k) V V':=by
 have hil:i<l.length:=(List.getElem?_eq_some_iff.1 hi).1
 have hin:i<n:=by rw [← hn,← List.length_map (f:=En.pc),hl];exact hil
 have hmk:=h.mks i p hi
 by_cases hin2:(p.1,Pl.pend p)∈out
 · have hf:ms[i]?.getD false=true:=by rw [hmk];simpa using hin2
   refine (put_old w.heap.size (w.heap.size+4) (w.heap.size+2) w.heap.size (w.heap.size+3) n i ms V h.bs h.rm hin hf).mono ?_
   rintro e' V' ⟨hv,hb⟩
   refine ⟨hv,ms,va,vc,?_,Chg.of_below hb⟩
   rw [putP,if_pos hin2]
   exact (h.later hb).mono (fun k hk=>.inl hk)
 · have hf:ms[i]?.getD false=false:=by rw [hmk];simpa using hin2
   obtain ⟨y,hy⟩:∃ y,es[i]? = some y:=⟨es[i]'(by omega),List.getElem?_eq_getElem (by omega)⟩
   have hyp:y.pc=p:=by
    have:=hi
    rw [← hl,List.getElem?_map,hy] at this
    simpa using this
   obtain ⟨pb,po,hA,hc0,hc1⟩:=hP.ents i y hy
   subst hA
   have hpb:=zac hc0
   have hblk:=h.bel.block pb hpb
   obtain ⟨lo,hlo,hlat,hlm⟩:=hF
   have hpm:p∈l:=List.mem_of_getElem? hi
   have hbd:=zbd hlat p hpm
   have hfit:wrap64 (y.f+(y.bs.length:Int))=Pl.pend p:=by
    rw [← hyp]
    exact zdx (by rw [← hyp] at hbd;exact ⟨show 0<y.pc.1 by omega,hbd.2,by have:=hlm p hpm;rw [← hyp] at this;exact this⟩)
   refine (put_new w.heap.size (w.heap.size+4) (w.heap.size+2) w.heap.size (w.heap.size+3) n i out.length vc lc va ms out cs pb po y (Pl.pend p) V h.bs h.bf h.box hcs h.rm h.rt h.bel.size hin hf ((World.cell?_of_block (w:=w) hblk).trans hc0) ((World.cell?_of_block (w:=w) hblk).trans hc1) hpb (by omega) hfit hL).mono ?_
   rintro e' V' ⟨hv,va',vc',q1,q2,q3,q4,q5⟩
   refine ⟨hv,ms.set i true,va',vc',?_,q4⟩
   have hyf:y.f=p.1:=by rw [← hyp];rfl
   rw [hyf] at q3
   have hsz:=h.bel.size
   have hnl:∀ (k:Nat) (t:TypeId),t≠78→(∃ cur fr,V.heap[k]? = some (.cells cur t fr))→¬lies va k:=fun k t ht ⟨cur,fr,e1⟩ hlk=>by
    obtain ⟨_,_,_,cur2,e2⟩:=zaj h.rt hlk
    exact ht (za2 e1 e2)
   have hat:¬lies va (w.heap.size+1)→Box V' (w.heap.size+1) 78 [.int .i64 x,.int .i64 e]:=fun h1=>(q4.same _ h.at'.lt (fun h2=>by rcases h2 with h2|h2|h2;omega;omega;exact h1 h2)).trans h.at'
   have e1:putP out (p.1,Pl.pend p)=out++[(p.1,Pl.pend p)]:=by rw [putP,if_neg hin2]
   have e2:(out++[(p.1,Pl.pend p)]).length=out.length+1:=by simp
   rw [e1]
   refine ⟨(q4.same _ h.box.lt (fun h2=>?_)).trans h.box,?_,by rw [e2];exact q1,(q4.same _ h.bs.lt (fun h2=>?_)).trans h.bs,(q4.same _ h.bp.lt (fun h2=>?_)).trans h.bp,q2,by rw [e2];exact q3,?_,?_,?_,?_⟩
   · rcases h2 with h2|h2|h2
     · omega
     · omega
     · exact hnl _ 27 (by decide) ⟨_,_,h.box⟩ h2
   · exact hat (fun hlk=>by have:=h.vn _ hlk;omega)
   · rcases h2 with h2|h2|h2
     · omega
     · omega
     · exact hnl _ 84 (by decide) ⟨_,_,h.bs⟩ h2
   · rcases h2 with h2|h2|h2
     · omega
     · omega
     · exact hnl _ 109 (by decide) ⟨_,_,h.bp⟩ h2
   · intro j q hq
     by_cases hji:j=i
     · subst hji
       rw [hi] at hq
       cases hq
       have hml:=h.rm.len
       simp [hml,hin]
     · have h1:=h.mks j q hq
       rw [List.getElem?_set_ne (by omega),h1]
       have:¬(q.1,Pl.pend q)=(p.1,Pl.pend p):=fun e3=>hji (lat_inj hlat hq hi (by injection e3))
       simp [this]
   · intro k hk
     rcases q5 k hk with h1|h1
     · exact .inl (h.vo k h1)
     · exact .inr ⟨h1,(zaj q3 hk).2.2.1⟩
   · intro k hk
     rcases q5 k hk with h1|h1
     · exact h.vn k h1
     · have:=h.bp.lt;omega
   · refine ⟨q4.flat.os.trans h.bel.os,q4.flat.tape.trans h.bel.tape,q4.flat.output.trans h.bel.output,Nat.le_trans hsz q4.flat.size,fun k hk=>(q4.same k (by omega) (fun h2=>?_)).trans (h.bel.block k hk)⟩
     rcases h2 with h2|h2|h2
     · omega
     · omega
     · have:=(zaj h.rt h2).2.1;omega
open Go.Shelf
attribute [local go_sem] Oper.semAt_some
theorem zd7 (l:List Pl.Pc) (a:List Tm) (x:Tm) (out:List Tm):turnL l (a++[x]) out=match holdP l x.1 with|none=>turnL l a out|some p=>putP (turnL l a out) (p.1,Pl.pend p):=by
 unfold turnL
 rw [List.foldl_append]
 rfl
theorem putP_len (out:List Tm) (s:Tm):(putP out s).length≤out.length+1:=by unfold putP;split<;>simp
set_option maxRecDepth 100000 in
set_option maxHeartbeats 8000000 in
theorem inTurn_any (r:Pl.Rv) (h:Hd) (x e:Int) (w:World) (H:RvAt w r h) (hF:Fits r.s.l) (F:List Tm) (hFF:turnL r.s.l r.first (match backP r.s.l x e with|none=>[]|some p=>[(p.1,Pl.pend p)])=F) :
 Calls Try.prog 64 #[.agg #[.int .i64 r.s.n,.slice h.ua r.s.u.length h.uc,.slice h.la h.es.length h.lc,.int .i64 r.cap,.int .i64 r.shift,.int .i64 r.edge,.int .u32 r.recent,.bool r.stamps,.bool r.sacks,.int .i64 r.fin,.bool r.dn,.slice h.fa r.first.length h.fc,.int .u32 r.irs,.int .u32 r.own,.bool r.stamp],.agg #[.int .i64 x,.int .i64 e]] w fun e' w'=>∃ va vc,e'=.returned (.slice va F.length vc)∧RowT w' w.heap.size va F.length vc F∧Below w.heap.size w w':=by
 obtain ⟨i0,hi,hz0,hz1,hz2⟩:=info_parts Try.info4
 have hlr:=H.late.reach
 have hfr:=H.fst.reach
 have hX0:=Box.new w 27 (rvL r h)
 obtain ⟨n,hn⟩:∃ n,h.es.length=n:=⟨_,rfl⟩
 obtain ⟨m,hm⟩:∃ m,r.first.length=m:=⟨_,rfl⟩
 rw [hn] at hlr
 rw [hm] at hfr
 obtain ⟨W3,hW3⟩:∃ W3,((w.alloc (.cells #[.int .i64 r.s.n,.slice h.ua r.s.u.length h.uc,.slice h.la h.es.length h.lc,.int .i64 r.cap,.int .i64 r.shift,.int .i64 r.edge,.int .u32 r.recent,.bool r.stamps,.bool r.sacks,.int .i64 r.fin,.bool r.dn,.slice h.fa r.first.length h.fc,.int .u32 r.irs,.int .u32 r.own,.bool r.stamp] 27)).alloc (.cells #[.int .i64 x,.int .i64 e] 78)).alloc (.cells #[.slice none 0 0] 25)=W3:=⟨_,rfl⟩
 have b3:Below w.heap.size w W3:=by rw [← hW3];exact zaa (zaa (zaa (Below.refl _ _) _) _) _
 have s3:W3.heap.size=w.heap.size+3:=by rw [← hW3];simp
 have hX3:Box W3 w.heap.size 27 (rvL r h):=by rw [← hW3];exact Box.alloc (Box.alloc hX0 _) _
 have hA3:Box W3 (w.heap.size+1) 78 [.int .i64 x,.int .i64 e]:=by rw [← hW3];have:=(Box.new (w.alloc (.cells (rvL r h).toArray 27)) 78 [.int .i64 x,.int .i64 e]).alloc (.cells #[.slice none 0 0] 25);rwa [World.size_alloc] at this
 have hf3:Boxed W3 (w.heap.size+2) 25 (.slice none 0 0):=by rw [← hW3];have:=Boxed.new ((w.alloc (.cells (rvL r h).toArray 27)).alloc (.cells #[.int .i64 x,.int .i64 e] 78)) 25 (.slice none 0 0);rwa [World.size_alloc,World.size_alloc] at this
 have hmk:=fun W:World=>run_make (P:=Try.prog) W 84 4 i0 _ Try.underlying84 hi hz0 .i64 .i64 (n:Int) (n:Int) (by omega) (Int.le_refl _) (by rw [hz2];omega) (by omega)
 simp only [Int.toNat_natCast,hz1] at hmk
 obtain ⟨mc,hmc⟩:∃ mc,madeCells (Value.bool false).cells (n*1)=mc:=⟨_,rfl⟩
 simp only [hmc] at hmk
 obtain ⟨fv,hfv⟩:∃ fv,Value.func (.func 81) #[] #[.pointer (some ⟨w.heap.size+4,0,none⟩),.pointer (some ⟨w.heap.size+2,0,none⟩),.pointer (some ⟨w.heap.size,0,none⟩)]=fv:=⟨_,rfl⟩
 obtain ⟨W4,hW4⟩:∃ W4,(W3.alloc (.cells mc 4)).alloc (.cells #[.slice (some ⟨w.heap.size+3,0,none⟩) n n] 84)=W4:=⟨_,rfl⟩
 have b4:Below W3.heap.size W3 W4:=by rw [← hW4];exact zaa (zaa (Below.refl _ _) _) _
 have s4:W4.heap.size=w.heap.size+5:=by rw [← hW4];simp [s3]
 have hbs4:Boxed W4 (w.heap.size+4) 84 (.slice (some ⟨w.heap.size+3,0,none⟩) n n):=by rw [← hW4];have:=Boxed.new (W3.alloc (.cells mc 4)) 84 (.slice (some ⟨w.heap.size+3,0,none⟩) n n);rwa [World.size_alloc,s3] at this
 have hst3:RowM (W3.alloc (.cells mc 4)) w.heap.size (w.heap.size+3) n (List.replicate n false):=by
  refine ⟨by simp,.inr ⟨_,n,mc,rfl,by omega,by have:=heap_alloc_new W3 (.cells mc 4);rw [s3] at this;exact this,Nat.le_refl _,by unfold maxLen;omega,by rw [← hmc,size_madeCells],?_⟩⟩
  rw [← zgg,hmc]
  apply List.take_of_length_le
  rw [Array.length_toList,← hmc,size_madeCells]
  exact Nat.le_refl _
 have hst4:RowM W4 w.heap.size (w.heap.size+3) n (List.replicate n false):=by rw [← hW4];exact hst3.later (zaa (Below.refl _ _) _)
 obtain ⟨W5,hW5⟩:∃ W5,W4.alloc (.cells #[.func (.func 81) #[] #[.pointer (some ⟨w.heap.size+4,0,none⟩),.pointer (some ⟨w.heap.size+2,0,none⟩),.pointer (some ⟨w.heap.size,0,none⟩)]] 109)=W5:=⟨_,rfl⟩
 have b5:Below W4.heap.size W4 W5:=by rw [← hW5];exact zaa (Below.refl _ _) _
 have s5:W5.heap.size=w.heap.size+6:=by rw [← hW5];simp [s4]
 have hbp5:Boxed W5 (w.heap.size+5) 109 (.func (.func 81) #[] #[.pointer (some ⟨w.heap.size+4,0,none⟩),.pointer (some ⟨w.heap.size+2,0,none⟩),.pointer (some ⟨w.heap.size,0,none⟩)]):=by rw [← hW5];have:=Boxed.new W4 109 (.func (.func 81) #[] #[.pointer (some ⟨w.heap.size+4,0,none⟩),.pointer (some ⟨w.heap.size+2,0,none⟩),.pointer (some ⟨w.heap.size,0,none⟩)]);rwa [s4] at this
 have b35:=Below.on b4 b5
 have hT5:TnAt w W5 (fun _=>False) [.int .i64 r.s.n,.slice h.ua r.s.u.length h.uc,.slice h.la h.es.length h.lc,.int .i64 r.cap,.int .i64 r.shift,.int .i64 r.edge,.int .u32 r.recent,.bool r.stamps,.bool r.sacks,.int .i64 r.fin,.bool r.dn,.slice h.fa r.first.length h.fc,.int .u32 r.irs,.int .u32 r.own,.bool r.stamp] x e n r.s.l (List.replicate n false) [] none 0:=by
  refine ⟨hX3.later b35,hA3.later b35,zcg hf3 b35 hf3.lt,zcg hbs4 b5 hbs4.lt,hbp5,hst4.later b5,RowT.nil _ _,fun j p hj=>?_,fun k hk=>(by obtain ⟨_,_,e1⟩:=hk;cases e1),fun k hk=>(by obtain ⟨_,_,e1⟩:=hk;cases e1),Below.on b3 b35⟩
  have hjn:j<n:=by rw [← hn,← H.len];exact (List.getElem?_eq_some_iff.1 hj).1
  simp [hjn]
 obtain ⟨W0,hW0⟩:∃ W0,W5.alloc (.cells #[.slice h.la n h.lc] 23)=W0:=⟨_,rfl⟩
 have b6:Below W5.heap.size W5 W0:=by rw [← hW0];exact zaa (Below.refl _ _) _
 have hs0:W0.heap.size=w.heap.size+7:=by rw [← hW0];simp [s5]
 have hbk:W0.cell? ⟨W5.heap.size,0,none⟩=some (.slice h.la n h.lc):=by rw [← hW0];exact (Boxed.new W5 23 (.slice h.la n h.lc)).cell
 have hT0:=hT5.later b6
 have cBk:=back_in h.la n h.lc W5
 rw [hW0] at cBk
 have hseq:=back_deep 5 W5.heap.size h.lc n h.la h.es w W0 H.late.ents hn (by omega) hT0.bel hbk
 have HH:Hid (RvAt w r h∧Fits r.s.l∧h.es.length=n∧r.first.length=m∧turnL r.s.l r.first (match backP r.s.l x e with|none=>[]|some p=>[(p.1,Pl.pend p)])=F):=⟨H,hF,hn,hm,hFF⟩
 have k2:W3.cell? ⟨w.heap.size,2,none⟩=some (.slice h.la n h.lc):=by have:=hX3.cell 2 rfl;rw [hn] at this;exact this
 have k2':W5.cell? ⟨w.heap.size,2,none⟩=some (.slice h.la n h.lc):=by have:=hT5.box.cell 2 rfl;rw [hn] at this;exact this
 have hws:W5.heap.size=w.heap.size+6:=s5
 clear H hF hFF hX0 b3 hX3 hA3 hf3 b4 hbs4 hst3 hst4 b5 s5 hbp5 b35 hT5 b6 hbk hfv hmc
 rw [hn,hm] at hW3 ⊢
 clear hn hm
 have HS4:Hid (W4.heap.size=w.heap.size+5∧W5.heap.size=w.heap.size+6):=⟨s4,hws⟩
 have hW5':W4.alloc (.cells #[.func (.func 81) #[] #[.pointer (some ⟨w.heap.size+3+1,0,none⟩),.pointer (some ⟨w.heap.size+1+1,0,none⟩),.pointer (some ⟨w.heap.size,0,none⟩)]] 109)=W5:=hW5
 clear hW5 s4 hws
 refine (callsIn_wide (n:=6)).1 ?_
 refine callsIn_of_wp_marks Try.func64 rfl trivial ?_ rfl
 simp only [Try.ntmps64,List.size_toArray,List.length_cons,List.length_nil,Nat.reduceAdd,Nat.reduceSub,Array.replicate_succ,Array.replicate_zero,List.push_toArray,List.append_toArray,List.nil_append,List.cons_append]
 gi_wp2_with (refine ⟨trivial,?_⟩;gi_at_call 82;refine (callsIn_wide.2 cBk).mono ?_;rintro e' w' ⟨rfl,hw'⟩;obtain rfl:=hw'.symm)
 clear hW3 hW4 hW5' hW0 hmk k2 k2' cBk s3
 have HT0:Hid (TnAt w W0 (fun _=>False) [.int .i64 r.s.n,.slice h.ua r.s.u.length h.uc,.slice h.la h.es.length h.lc,.int .i64 r.cap,.int .i64 r.shift,.int .i64 r.edge,.int .u32 r.recent,.bool r.stamps,.bool r.sacks,.int .i64 r.fin,.bool r.dn,.slice h.fa r.first.length h.fc,.int .u32 r.irs,.int .u32 r.own,.bool r.stamp] x e n r.s.l (List.replicate n false) [] none 0∧W0.heap.size=w.heap.size+7):=⟨hT0,hs0⟩
 have hh0:W0.heap.size=w.heap.size+7:=hs0
 have hw5s:=HS4.out.2
 refine zcz (F:=Fence.wide) (n:=6) rfl (by omega) (gf:=88) (lb:=#[.pointer (some ⟨W5.heap.size,0,none⟩)]) rfl trivial (enters_of Try.func88 (by kernel_rfl) rfl) hseq (Below.refl _ _) (fun _=>by exact rfl)
  (fun k hk=>by rcases hk with ⟨_,hk⟩|hk<;>omega)
  (fun pre Z V=>TnAt w V (fun k=>Z k∨k<W0.heap.size) [.int .i64 r.s.n,.slice h.ua r.s.u.length h.uc,.slice h.la h.es.length h.lc,.int .i64 r.cap,.int .i64 r.shift,.int .i64 r.edge,.int .u32 r.recent,.bool r.stamps,.bool r.sacks,.int .i64 r.fin,.bool r.dn,.slice h.fa r.first.length h.fc,.int .u32 r.irs,.int .u32 r.own,.bool r.stamp] x e n r.s.l (List.replicate n false) [] none 0∧∀ j p,j∈pre→r.s.l[j]? = some p→¬meets x e p)
  (fun c pre Z V=>c=.exit 0∧∃ p0 j p ms va vc,pre=p0++[j]∧(∀ i q,i∈p0→r.s.l[i]? = some q→¬meets x e q)∧r.s.l[j]? = some p∧meets x e p∧TnAt w V (fun k=>Z k∨k<W0.heap.size) [.int .i64 r.s.n,.slice h.ua r.s.u.length h.uc,.slice h.la h.es.length h.lc,.int .i64 r.cap,.int .i64 r.shift,.int .i64 r.edge,.int .u32 r.recent,.bool r.stamps,.bool r.sacks,.int .i64 r.fin,.bool r.dn,.slice h.fa r.first.length h.fc,.int .u32 r.irs,.int .u32 r.own,.bool r.stamp] x e n r.s.l ms [(p.1,Pl.pend p)] va vc)
  ?hI ?hIx ⟨hT0.mono (fun k h=>h.elim),fun j p h=>by cases h⟩ ?round ?done ?stop
 case hI =>
  rintro pre Z X Y ⟨h1,h2⟩ hA
  exact ⟨h1.moved hA.flat (fun k hk ho=>hA.same k hk (by rcases ho with h|h|h;exact .inl (by omega);exact .inr h;exact .inl h)),h2⟩
 case hIx =>
  rintro c pre Z X Y ⟨hc,p0,j,p,ms,va,vc,h1,h2,h3,h4,h5⟩ hA
  exact ⟨hc,p0,j,p,ms,va,vc,h1,h2,h3,h4,h5.moved hA.flat (fun k hk ho=>hA.same k hk (by rcases ho with h|h|h;exact .inl (by omega);exact .inr h;exact .inl h))⟩
 case round =>
  rintro lp pre j Z W1 hl hll hz ⟨hT1,hpre⟩ hG
  have hjr:j∈revI n 0:=hG.subset (by simp)
  have hjn:j<n:=(zgv.1 hjr).2
  have hje:j<h.es.length:=by rw [HH.out.2.2.1];exact hjn
  obtain ⟨y,hy⟩:∃ y,h.es[j]? = some y:=⟨h.es[j]'hje,List.getElem?_eq_getElem hje⟩
  have hlj:r.s.l[j]? = some y.pc:=by rw [← HH.out.1.les,List.getElem?_map,hy];rfl
  have henc:encB h.es j=#[.int .i64 (j:Int),.agg #[.int .i64 y.f,.slice y.a y.bs.length y.c]]:=by unfold encB;rw [hy];rfl
  rw [henc]
  obtain ⟨t,ht⟩:∃ t,Pl.pend y.pc=t:=⟨_,rfl⟩
  have hbd:=HH.out.2.1.bd (List.mem_of_getElem? hlj)
  have cS:=fun W=>zbu y.f y.a y.bs.length y.c W t (by rw [← ht];exact zdx hbd)
  have HJ:Hid (r.s.l[j]? = some y.pc∧Pl.pend y.pc=t∧(∀ i q,i∈pre→r.s.l[i]? = some q→¬meets x e q)):=⟨hlj,ht,fun i q h1 h2=>hpre i q h1 h2⟩
  have HZ:Hid (∀ k,Z k→W0.heap.size≤k∧k<W1.heap.size∧k≠lp):=hz
  clear hT0 hseq hpre hG hjr hje hy hlj henc hbd hz
  unfold zci
  gi_wp2
  refine ⟨Mine.alloc (fun k hk=>(HZ.out k hk).2.1) _,?_⟩
  intro W2 hg2 hr2
  have hs2:W1.heap.size+1≤W2.heap.size:=by have:=hg2.size;simp at this;exact this
  have hT2:TnAt w W2 (fun k=>Z k∨k<W0.heap.size) [.int .i64 r.s.n,.slice h.ua r.s.u.length h.uc,.slice h.la h.es.length h.lc,.int .i64 r.cap,.int .i64 r.shift,.int .i64 r.edge,.int .u32 r.recent,.bool r.stamps,.bool r.sacks,.int .i64 r.fin,.bool r.dn,.slice h.fa r.first.length h.fc,.int .u32 r.irs,.int .u32 r.own,.bool r.stamp] x e n r.s.l (List.replicate n false) [] none 0:=by
   refine hT1.moved (below0 (zaa (Below.refl _ _) _) |>.trans ⟨hg2.os,hg2.tape,hg2.output,hg2.size,fun k hk=>by omega⟩) (fun k hk ho=>(hg2.block k (by simp;omega) (fun e1=>?_)).trans (Below.heap_alloc _ _ _ hk))
   cases e1
   rcases ho with h1|h1|h1
   · omega
   · exact (HZ.out _ h1).2.2 rfl
   · omega
  have hp2:Box W2 W1.heap.size 74 [.int .i64 y.f,.slice y.a y.bs.length y.c]:=(hg2.block W1.heap.size (by simp) (fun e1=>by cases e1;omega)).trans (Box.new W1 74 [.int .i64 y.f,.slice y.a y.bs.length y.c])
  have hZ2:∀ k,Z k→k<W2.heap.size:=fun k hk=>by have:=(HZ.out k hk).2.1;omega
  have cP0:=hp2.cell 0 rfl
  have cP1:=hp2.cell 1 rfl
  have HT2:Hid (TnAt w W2 (fun k=>Z k∨k<W0.heap.size) [.int .i64 r.s.n,.slice h.ua r.s.u.length h.uc,.slice h.la h.es.length h.lc,.int .i64 r.cap,.int .i64 r.shift,.int .i64 r.edge,.int .u32 r.recent,.bool r.stamps,.bool r.sacks,.int .i64 r.fin,.bool r.dn,.slice h.fa r.first.length h.fc,.int .u32 r.irs,.int .u32 r.own,.bool r.stamp] x e n r.s.l (List.replicate n false) [] none 0∧(∀ k,Z k→k<W2.heap.size)∧W0.heap.size≤W2.heap.size):=⟨hT2,hZ2,by omega⟩
  obtain ⟨mx,hmx⟩:∃ mx,(if y.f<x then x else y.f)=mx:=⟨_,rfl⟩
  obtain ⟨mn,hmn⟩:∃ mn,(if e<t then e else t)=mn:=⟨_,rfl⟩
  have hmeet:meets x e y.pc↔mx<mn:=by
   unfold meets Pl.maxJ Pl.minJ
   rw [ht,hmn]
   show (if y.f<x then x else y.f)<mn↔_
   rw [hmx]
  have HME:Hid (meets x e y.pc↔mx<mn):=hmeet
  clear hT1 hg2 hr2 hT2 hp2 hZ2 hmeet ht
  by_cases hlt:mx<mn
  · gi_wp2_with (first
     | (refine ⟨trivial,?_⟩;gi_at_call 55;refine (zb0 (cS _)).mono ?_;rintro e' W3 ⟨rfl,hB3⟩;have HB3:Hid (Below W2.heap.size W2 W3):=hB3;have hb0:=(HT2.out.1.later (zaa hB3 (.cells #[.int .i64 y.f,.int .i64 t] 78)));have a0:=hb0.at'.cell 0 rfl;have a1:=hb0.at'.cell 1 rfl;have ap:(W3.alloc (.cells #[.int .i64 y.f,.int .i64 t] 78)).cell? ⟨W4.heap.size,0,none⟩=some (.func (.func 81) #[] #[.pointer (some ⟨w.heap.size+4,0,none⟩),.pointer (some ⟨w.heap.size+2,0,none⟩),.pointer (some ⟨w.heap.size,0,none⟩)]):=(by rw [HS4.out.1];exact hb0.bp.cell);have cPut:=tn_put hb0 HH.out.1.late HH.out.1.les HH.out.2.2.1 HH.out.2.1 (by rw [← HH.out.2.2.1];rfl) j y.pc HJ.out.1 (by simp);clear hB3 hb0)
     | (refine ⟨trivial,?_⟩;gi_at_call 81;refine (zb0 cPut).mono ?_;rintro e' V' ⟨⟨v,rfl⟩,ms',va',vc',hT',hC'⟩;have HT':Hid (_∧_):=⟨hT',hC'⟩;clear hT' hC'))
    obtain ⟨hT',hC'⟩:=HT'.out
    have hb3:=HB3.out.size
    have hCC:Chg (fun k=>k=w.heap.size+3∨k=w.heap.size+2) W2 V':=(Chg.of_below (zaa HB3.out _)).trans (hC'.mono (fun k _ hk=>by rcases hk with h1|h1|⟨_,_,h1⟩;exact .inl h1;exact .inr h1;cases h1))
    refine ⟨_,Mine.of_chg (Z:=Z) hCC (fun k hk=>.inr ⟨by rcases hk with h1|h1<;>omega,fun hR=>by rcases hR with ⟨_,h2⟩|h2<;>rcases hk with h1|h1<;>omega⟩) HT2.out.2.1,rfl,pre,j,y.pc,ms',va',vc',rfl,HJ.out.2.2,HJ.out.1,HME.out.2 hlt,?_⟩
    · have e1:putP [] (y.pc.1,Pl.pend y.pc)=[(y.pc.1,Pl.pend y.pc)]:=rfl
      rw [e1] at hT'
      refine hT'.mono (fun k hk=>?_)
      rcases hk with (h1|h1)|h1
      · exact .inl (.inl h1)
      · exact .inr h1
      · exact .inl (.inr ⟨by have:=h1.1;simp at this;omega,h1.2⟩)
  · have HNL:Hid (¬mx<mn):=hlt
    gi_wp2_with (refine ⟨trivial,?_⟩;gi_at_call 55;refine (zb0 (cS _)).mono ?_;rintro e' W3 ⟨rfl,hB3⟩;have HB3:Hid (Below W2.heap.size W2 W3):=hB3;have hb0:=(HT2.out.1.later (zaa hB3 (.cells #[.int .i64 y.f,.int .i64 t] 78)));have a0:=hb0.at'.cell 0 rfl;have a1:=hb0.at'.cell 1 rfl;clear hB3 hb0)
    have hb3:=zaa HB3.out (.cells #[.int .i64 y.f,.int .i64 t] 78)
    refine ⟨Z,⟨below0 hb3,fun k hk=>.inl hk,fun k hk=>Nat.lt_of_lt_of_le (HT2.out.2.1 k hk) hb3.size,fun k hk _ _=>hb3.block k hk⟩,HT2.out.1.later hb3,fun i q hi hq=>?_⟩
    rcases List.mem_append.1 hi with h1|h1
    · exact HJ.out.2.2 i q h1 hq
    · simp at h1
      subst h1
      rw [HJ.out.1] at hq
      cases hq
      exact fun h2=>by have h3:=HME.out.1 h2;have h4:=HNL.out;omega
 case done =>
  rintro D ys Z V hD hz rfl ⟨hT1,hpre⟩ hK
  have hback:backP r.s.l x e=none:=zex (fun j p hj=>hpre j p (zgv.2 ⟨Nat.zero_le _,by rw [← HH.out.2.2.1,← HH.out.1.len];exact (List.getElem?_eq_some_iff.1 hj).1⟩) hj)
  obtain ⟨out0,hout0⟩:∃ out0:List Tm,[]=out0:=⟨_,rfl⟩
  have HO:Hid (turnL r.s.l r.first out0=F∧out0.length≤1):=by
   have h1:=HH.out.2.2.2.2
   rw [hback] at h1
   exact ⟨by rw [← hout0];exact h1,by rw [← hout0];simp⟩
  have HT1:Hid (∃ ms va vc,TnAt w V (fun _=>True) [.int .i64 r.s.n,.slice h.ua r.s.u.length h.uc,.slice h.la h.es.length h.lc,.int .i64 r.cap,.int .i64 r.shift,.int .i64 r.edge,.int .u32 r.recent,.bool r.stamps,.bool r.sacks,.int .i64 r.fin,.bool r.dn,.slice h.fa r.first.length h.fc,.int .u32 r.irs,.int .u32 r.own,.bool r.stamp] x e n r.s.l ms out0 va vc):=⟨_,_,_,by rw [← hout0];exact hT1.mono (fun _ _=>trivial)⟩
  clear hT0 hseq hT1 hpre hback hout0 hz
  have HK:Hid (V.heap[D]? = some (.deferred (some []))):=hK
  have hDw:w.heap.size≤D:=by omega
  clear hK hw5s hh0 hs0 hD
  obtain ⟨ms,va,vc,hTV⟩:=HT1.out
  obtain ⟨fa,hfa0⟩:∃ fa,h.fa=fa:=⟨_,rfl⟩
  have HFA:Hid (za0 w fa r.first):=by rw [← hfa0];exact HH.out.1.fst.tims
  have k11:V.cell? ⟨w.heap.size,11,none⟩=some (.slice fa m h.fc):=by have:=hTV.box.cell 11 rfl;rw [HH.out.2.2.2.1,hfa0] at this;exact this
  clear hfa0
  clear hTV
  gi_wp2
  clear k11
  gi_loopw [44] (fun vi wr=>∃ (i:Nat) (out:List Tm),vi=.int .i64 i∧i≤m∧Hid ((∃ ms va vc,TnAt w wr (fun _=>True) [.int .i64 r.s.n,.slice h.ua r.s.u.length h.uc,.slice h.la h.es.length h.lc,.int .i64 r.cap,.int .i64 r.shift,.int .i64 r.edge,.int .u32 r.recent,.bool r.stamps,.bool r.sacks,.int .i64 r.fin,.bool r.dn,.slice h.fa r.first.length h.fc,.int .u32 r.irs,.int .u32 r.own,.bool r.stamp] x e n r.s.l ms out va vc)∧out=turnL r.s.l (r.first.take i) out0∧out.length≤i+1∧wr.heap[D]? = some (.deferred (some []))))
   (fun vi _=>m-(intOf vi).toNat)
  case atStart=>exact ⟨0,out0,rfl,Nat.zero_le _,HT1.out,by simp [turnL],HO.out.2,HK.out⟩
  case round =>
   clear HT1 HK ms va vc
   obtain ⟨i,out,rfl,him,HI⟩:=hrel
   by_cases hlt:i<m
   · obtain ⟨⟨ms,va,vc,hT⟩,hout,hol,hD'⟩:=HI.out
     obtain ⟨b,o,hfa,hc0,hc1⟩:=(HFA.out.later hT.bel).2 i (by rw [HH.out.2.2.2.1];exact hlt)
     obtain ⟨a,ha⟩:∃ a,r.first[i]?.getD (0,0)=a:=⟨_,rfl⟩
     rw [ha] at hc0 hc1
     have htk:r.first.take (i+1)=r.first.take i++[a]:=zc2 (by rw [HH.out.2.2.2.1];exact hlt) ha
     have hbA:Below wr.heap.size wr (wr.alloc (.cells #[.int .i64 a.1,.int .i64 a.2] 78)):=zaa (Below.refl _ _) _
     have hTA:=hT.later hbA
     have kL:(wr.alloc (.cells #[.int .i64 a.1,.int .i64 a.2] 78)).cell? ⟨w.heap.size,2,none⟩=some (.slice h.la n h.lc):=by have:=hTA.box.cell 2 rfl;rw [HH.out.2.2.1] at this;exact this
     have cH:=zes h.la h.lc h.es a.1 (wr.alloc (.cells #[.int .i64 a.1,.int .i64 a.2] 78)) (HH.out.1.late.later hTA.bel) (by rw [HH.out.1.les];exact HH.out.2.1)
     rw [HH.out.2.2.1,HH.out.1.les] at cH
     obtain ⟨X,hX⟩:∃ X,hix r.s.l a.1=X:=⟨_,rfl⟩
     rw [hX] at cH
     have HA:Hid (r.first.take (i+1)=r.first.take i++[a]∧out=turnL r.s.l (r.first.take i) out0∧out.length≤i+1∧hix r.s.l a.1=X∧wr.heap[D]? = some (.deferred (some []))):=⟨htk,hout,hol,hX,hD'⟩
     have HTA:Hid (TnAt w (wr.alloc (.cells #[.int .i64 a.1,.int .i64 a.2] 78)) (fun _=>True) [.int .i64 r.s.n,.slice h.ua r.s.u.length h.uc,.slice h.la h.es.length h.lc,.int .i64 r.cap,.int .i64 r.shift,.int .i64 r.edge,.int .u32 r.recent,.bool r.stamps,.bool r.sacks,.int .i64 r.fin,.bool r.dn,.slice h.fa r.first.length h.fc,.int .u32 r.irs,.int .u32 r.own,.bool r.stamp] x e n r.s.l ms out va vc∧Below wr.heap.size wr (wr.alloc (.cells #[.int .i64 a.1,.int .i64 a.2] 78))):=⟨hTA,hbA⟩
     have hii:(i:Int)<(m:Int):=by omega
     subst hfa
     cases hfnd:hfd r.s.l a.1 with
     | false =>
      rw [hfnd] at cH
      have hho:holdP r.s.l a.1=none:=by unfold holdP;rw [hfnd];rfl
      have HHO:Hid (turnL r.s.l (r.first.take (i+1)) out0=out):=by unfold Hid;rw [htk,zd7,hho,← hout]
      clear HI hT hout hol hD' ha htk hbA hTA hX hfnd hho
      gi_wp2_with (refine ⟨trivial,?_⟩;gi_at_call 54;refine (callsIn_wide.2 cH).mono ?_;rintro e' w1 ⟨rfl,hB1⟩;have HB1:Hid (_):=hB1;clear hB1)
      go_roundw
      case rel=>exact ⟨i+1,out,by go_num,by omega,⟨ms,va,vc,HTA.out.1.later HB1.out⟩,HHO.out.symm,by have:=HA.out.2.2.1;omega,(HB1.out.block D (by have:=(Array.getElem?_eq_some_iff.1 HA.out.2.2.2.2).1;simp;omega)).trans ((HTA.out.2.block D (Array.getElem?_eq_some_iff.1 HA.out.2.2.2.2).1).trans HA.out.2.2.2.2)⟩
      case measure=>simp [intOf];omega
     | true =>
      rw [hfnd] at cH
      obtain ⟨p,hp⟩:∃ p,r.s.l[X]? = some p:=by
       unfold hfd at hfnd
       rw [hX] at hfnd
       cases hq:r.s.l[X]? with
       | none=>rw [hq] at hfnd;cases hfnd
       | some p=>exact ⟨p,rfl⟩
      have hho:holdP r.s.l a.1=some p:=by unfold holdP;rw [hfnd,hX];exact hp
      have HHO:Hid (turnL r.s.l (r.first.take (i+1)) out0=putP out (p.1,Pl.pend p)):=by unfold Hid;rw [htk,zd7,hho,← hout]
      clear HI hT hout hD' ha htk hbA hTA hX hfnd hho
      gi_wp2_with (first
       | (refine ⟨trivial,?_⟩;gi_at_call 54;refine (callsIn_wide.2 cH).mono ?_;rintro e' w1 ⟨rfl,hB1⟩;have HB1:Hid (_):=hB1;have ap:w1.cell? ⟨W4.heap.size,0,none⟩=some (.func (.func 81) #[] #[.pointer (some ⟨w.heap.size+4,0,none⟩),.pointer (some ⟨w.heap.size+2,0,none⟩),.pointer (some ⟨w.heap.size,0,none⟩)]):=(by rw [HS4.out.1];exact (HTA.out.1.later hB1).bp.cell);have cPut:=tn_put (HTA.out.1.later hB1) HH.out.1.late HH.out.1.les HH.out.2.2.1 HH.out.2.1 (by rw [← HH.out.2.2.1];rfl) X p hp (by omega);clear hB1)
       | (refine ⟨trivial,?_⟩;gi_at_call 81;refine (callsIn_wide.2 cPut).mono ?_;rintro e' V' ⟨⟨v,rfl⟩,ms',va',vc',hT',hC'⟩;have HT':Hid (_∧_):=⟨hT',hC'⟩;clear hT' hC'))
      obtain ⟨hT',hC'⟩:=HT'.out
      have hDA:=HA.out.2.2.2.2
      have hDlt:=(Array.getElem?_eq_some_iff.1 hDA).1
      have hD1:w1.heap[D]? = some (.deferred (some [])):=(HB1.out.block D (by simp;omega)).trans ((HTA.out.2.block D hDlt).trans hDA)
      have hT1:=HTA.out.1.later HB1.out
      have hDV:V'.heap[D]? = some (.deferred (some [])):=(hC'.same D (Array.getElem?_eq_some_iff.1 hD1).1 (fun h1=>by
       rcases h1 with h1|h1|h1
       · obtain ⟨_,_,_,cur,e1⟩:=zaj hT1.rm (k:=w.heap.size+3) ⟨_,_,rfl⟩
         rw [← h1,hD1] at e1;cases e1
       · have e1:=hT1.bf
         rw [← h1] at e1
         have e2:w1.heap[D]? = _:=e1
         rw [hD1] at e2;cases e2
       · obtain ⟨_,_,_,cur,e1⟩:=zaj hT1.rt h1
         rw [hD1] at e1;cases e1)).trans hD1
      go_roundw
      case rel=>exact ⟨i+1,putP out (p.1,Pl.pend p),by go_num,by omega,⟨ms',va',vc',hT'.mono (fun _ _=>trivial)⟩,HHO.out.symm,by have:=HA.out.2.2.1;have:=putP_len out (p.1,Pl.pend p);omega,hDV⟩
      case measure=>simp [intOf];omega
   · obtain rfl:i=m:=by omega
     obtain ⟨⟨ms,va,vc,hT⟩,hout,hol,hD'⟩:=HI.out
     have hoF:out=F:=by rw [hout,List.take_of_length_le (by rw [HH.out.2.2.2.1];exact Nat.le_refl _)];exact HO.out.1
     have kf:wr.cell? ⟨w.heap.size+1+1,0,none⟩=some (.slice va out.length vc):=hT.bf.cell
     have HOF:Hid (out=F):=hoF
     clear HI hout hoF
     gi_wp2
     refine ⟨by simp,.inl ⟨_,_,rfl,run_takeDeferred hD',?_⟩⟩
     rw [← HOF.out]
     refine ⟨_,results_tmp rfl _ _ _,va,vc,rfl,ownsRow_putObj hT.rt _ hD' rfl,hT.bel.trans (belowK_b (w:=w) (Nat.le_refl _) _ D _ _ (by omega) hD' rfl rfl)⟩
 case stop =>
  rintro D c pre Z V hD hz hpre ⟨rfl,p0,j,p,ms,va,vc,rfl,hp0,hj,hmt,hT1⟩ hK
  obtain ⟨k,hk1,hk2⟩:=rev_inj hpre
  have hjr:j∈revI n k:=by rw [← hk2];simp
  have hback:backP r.s.l x e=some p:=by
   refine back_at hj hmt (fun i q hi hq=>?_)
   have hin:i<n:=by rw [← HH.out.2.2.1,← HH.out.1.len];exact (List.getElem?_eq_some_iff.1 hq).1
   have him:i∈p0++[j]:=by rw [hk2];exact zgv.2 ⟨by have:=(zgv.1 hjr).1;omega,hin⟩
   rcases List.mem_append.1 him with h1|h1
   · exact hp0 i q h1 hq
   · simp at h1;omega
  obtain ⟨out0,hout0⟩:∃ out0:List Tm,[(p.1,Pl.pend p)]=out0:=⟨_,rfl⟩
  have HO:Hid (turnL r.s.l r.first out0=F∧out0.length≤1):=by
   have h1:=HH.out.2.2.2.2
   rw [hback] at h1
   exact ⟨by rw [← hout0];exact h1,by rw [← hout0];simp⟩
  have HT1:Hid (∃ ms va vc,TnAt w V (fun _=>True) [.int .i64 r.s.n,.slice h.ua r.s.u.length h.uc,.slice h.la h.es.length h.lc,.int .i64 r.cap,.int .i64 r.shift,.int .i64 r.edge,.int .u32 r.recent,.bool r.stamps,.bool r.sacks,.int .i64 r.fin,.bool r.dn,.slice h.fa r.first.length h.fc,.int .u32 r.irs,.int .u32 r.own,.bool r.stamp] x e n r.s.l ms out0 va vc):=⟨_,_,_,by rw [← hout0];exact hT1.mono (fun _ _=>trivial)⟩
  clear hT0 hseq hT1 hpre hback hout0 hz hp0 hj hmt hk1 hk2 hjr
  have HK:Hid (V.heap[D]? = some (.deferred (some []))):=hK
  have hDw:w.heap.size≤D:=by omega
  clear hK hw5s hh0 hs0 hD
  obtain ⟨ms,va,vc,hTV⟩:=HT1.out
  obtain ⟨fa,hfa0⟩:∃ fa,h.fa=fa:=⟨_,rfl⟩
  have HFA:Hid (za0 w fa r.first):=by rw [← hfa0];exact HH.out.1.fst.tims
  have k11:V.cell? ⟨w.heap.size,11,none⟩=some (.slice fa m h.fc):=by have:=hTV.box.cell 11 rfl;rw [HH.out.2.2.2.1,hfa0] at this;exact this
  clear hfa0
  clear hTV
  gi_wp2
  clear k11
  gi_loopw [44] (fun vi wr=>∃ (i:Nat) (out:List Tm),vi=.int .i64 i∧i≤m∧Hid ((∃ ms va vc,TnAt w wr (fun _=>True) [.int .i64 r.s.n,.slice h.ua r.s.u.length h.uc,.slice h.la h.es.length h.lc,.int .i64 r.cap,.int .i64 r.shift,.int .i64 r.edge,.int .u32 r.recent,.bool r.stamps,.bool r.sacks,.int .i64 r.fin,.bool r.dn,.slice h.fa r.first.length h.fc,.int .u32 r.irs,.int .u32 r.own,.bool r.stamp] x e n r.s.l ms out va vc)∧out=turnL r.s.l (r.first.take i) out0∧out.length≤i+1∧wr.heap[D]? = some (.deferred (some []))))
   (fun vi _=>m-(intOf vi).toNat)
  case atStart=>exact ⟨0,out0,rfl,Nat.zero_le _,HT1.out,by simp [turnL],HO.out.2,HK.out⟩
  case round =>
   clear HT1 HK ms va vc
   obtain ⟨i,out,rfl,him,HI⟩:=hrel
   by_cases hlt:i<m
   · obtain ⟨⟨ms,va,vc,hT⟩,hout,hol,hD'⟩:=HI.out
     obtain ⟨b,o,hfa,hc0,hc1⟩:=(HFA.out.later hT.bel).2 i (by rw [HH.out.2.2.2.1];exact hlt)
     obtain ⟨a,ha⟩:∃ a,r.first[i]?.getD (0,0)=a:=⟨_,rfl⟩
     rw [ha] at hc0 hc1
     have htk:r.first.take (i+1)=r.first.take i++[a]:=zc2 (by rw [HH.out.2.2.2.1];exact hlt) ha
     have hbA:Below wr.heap.size wr (wr.alloc (.cells #[.int .i64 a.1,.int .i64 a.2] 78)):=zaa (Below.refl _ _) _
     have hTA:=hT.later hbA
     have kL:(wr.alloc (.cells #[.int .i64 a.1,.int .i64 a.2] 78)).cell? ⟨w.heap.size,2,none⟩=some (.slice h.la n h.lc):=by have:=hTA.box.cell 2 rfl;rw [HH.out.2.2.1] at this;exact this
     have cH:=zes h.la h.lc h.es a.1 (wr.alloc (.cells #[.int .i64 a.1,.int .i64 a.2] 78)) (HH.out.1.late.later hTA.bel) (by rw [HH.out.1.les];exact HH.out.2.1)
     rw [HH.out.2.2.1,HH.out.1.les] at cH
     obtain ⟨X,hX⟩:∃ X,hix r.s.l a.1=X:=⟨_,rfl⟩
     rw [hX] at cH
     have HA:Hid (r.first.take (i+1)=r.first.take i++[a]∧out=turnL r.s.l (r.first.take i) out0∧out.length≤i+1∧hix r.s.l a.1=X∧wr.heap[D]? = some (.deferred (some []))):=⟨htk,hout,hol,hX,hD'⟩
     have HTA:Hid (TnAt w (wr.alloc (.cells #[.int .i64 a.1,.int .i64 a.2] 78)) (fun _=>True) [.int .i64 r.s.n,.slice h.ua r.s.u.length h.uc,.slice h.la h.es.length h.lc,.int .i64 r.cap,.int .i64 r.shift,.int .i64 r.edge,.int .u32 r.recent,.bool r.stamps,.bool r.sacks,.int .i64 r.fin,.bool r.dn,.slice h.fa r.first.length h.fc,.int .u32 r.irs,.int .u32 r.own,.bool r.stamp] x e n r.s.l ms out va vc∧Below wr.heap.size wr (wr.alloc (.cells #[.int .i64 a.1,.int .i64 a.2] 78))):=⟨hTA,hbA⟩
     have hii:(i:Int)<(m:Int):=by omega
     subst hfa
     cases hfnd:hfd r.s.l a.1 with
     | false =>
      rw [hfnd] at cH
      have hho:holdP r.s.l a.1=none:=by unfold holdP;rw [hfnd];rfl
      have HHO:Hid (turnL r.s.l (r.first.take (i+1)) out0=out):=by unfold Hid;rw [htk,zd7,hho,← hout]
      clear HI hT hout hol hD' ha htk hbA hTA hX hfnd hho
      gi_wp2_with (refine ⟨trivial,?_⟩;gi_at_call 54;refine (callsIn_wide.2 cH).mono ?_;rintro e' w1 ⟨rfl,hB1⟩;have HB1:Hid (_):=hB1;clear hB1)
      go_roundw
      case rel=>exact ⟨i+1,out,by go_num,by omega,⟨ms,va,vc,HTA.out.1.later HB1.out⟩,HHO.out.symm,by have:=HA.out.2.2.1;omega,(HB1.out.block D (by have:=(Array.getElem?_eq_some_iff.1 HA.out.2.2.2.2).1;simp;omega)).trans ((HTA.out.2.block D (Array.getElem?_eq_some_iff.1 HA.out.2.2.2.2).1).trans HA.out.2.2.2.2)⟩
      case measure=>simp [intOf];omega
     | true =>
      rw [hfnd] at cH
      obtain ⟨p,hp⟩:∃ p,r.s.l[X]? = some p:=by
       unfold hfd at hfnd
       rw [hX] at hfnd
       cases hq:r.s.l[X]? with
       | none=>rw [hq] at hfnd;cases hfnd
       | some p=>exact ⟨p,rfl⟩
      have hho:holdP r.s.l a.1=some p:=by unfold holdP;rw [hfnd,hX];exact hp
      have HHO:Hid (turnL r.s.l (r.first.take (i+1)) out0=putP out (p.1,Pl.pend p)):=by unfold Hid;rw [htk,zd7,hho,← hout]
      clear HI hT hout hD' ha htk hbA hTA hX hfnd hho
      gi_wp2_with (first
       | (refine ⟨trivial,?_⟩;gi_at_call 54;refine (callsIn_wide.2 cH).mono ?_;rintro e' w1 ⟨rfl,hB1⟩;have HB1:Hid (_):=hB1;have ap:w1.cell? ⟨W4.heap.size,0,none⟩=some (.func (.func 81) #[] #[.pointer (some ⟨w.heap.size+4,0,none⟩),.pointer (some ⟨w.heap.size+2,0,none⟩),.pointer (some ⟨w.heap.size,0,none⟩)]):=(by rw [HS4.out.1];exact (HTA.out.1.later hB1).bp.cell);have cPut:=tn_put (HTA.out.1.later hB1) HH.out.1.late HH.out.1.les HH.out.2.2.1 HH.out.2.1 (by rw [← HH.out.2.2.1];rfl) X p hp (by omega);clear hB1)
       | (refine ⟨trivial,?_⟩;gi_at_call 81;refine (callsIn_wide.2 cPut).mono ?_;rintro e' V' ⟨⟨v,rfl⟩,ms',va',vc',hT',hC'⟩;have HT':Hid (_∧_):=⟨hT',hC'⟩;clear hT' hC'))
      obtain ⟨hT',hC'⟩:=HT'.out
      have hDA:=HA.out.2.2.2.2
      have hDlt:=(Array.getElem?_eq_some_iff.1 hDA).1
      have hD1:w1.heap[D]? = some (.deferred (some [])):=(HB1.out.block D (by simp;omega)).trans ((HTA.out.2.block D hDlt).trans hDA)
      have hT1:=HTA.out.1.later HB1.out
      have hDV:V'.heap[D]? = some (.deferred (some [])):=(hC'.same D (Array.getElem?_eq_some_iff.1 hD1).1 (fun h1=>by
       rcases h1 with h1|h1|h1
       · obtain ⟨_,_,_,cur,e1⟩:=zaj hT1.rm (k:=w.heap.size+3) ⟨_,_,rfl⟩
         rw [← h1,hD1] at e1;cases e1
       · have e1:=hT1.bf
         rw [← h1] at e1
         have e2:w1.heap[D]? = _:=e1
         rw [hD1] at e2;cases e2
       · obtain ⟨_,_,_,cur,e1⟩:=zaj hT1.rt h1
         rw [hD1] at e1;cases e1)).trans hD1
      go_roundw
      case rel=>exact ⟨i+1,putP out (p.1,Pl.pend p),by go_num,by omega,⟨ms',va',vc',hT'.mono (fun _ _=>trivial)⟩,HHO.out.symm,by have:=HA.out.2.2.1;have:=putP_len out (p.1,Pl.pend p);omega,hDV⟩
      case measure=>simp [intOf];omega
   · obtain rfl:i=m:=by omega
     obtain ⟨⟨ms,va,vc,hT⟩,hout,hol,hD'⟩:=HI.out
     have hoF:out=F:=by rw [hout,List.take_of_length_le (by rw [HH.out.2.2.2.1];exact Nat.le_refl _)];exact HO.out.1
     have kf:wr.cell? ⟨w.heap.size+1+1,0,none⟩=some (.slice va out.length vc):=hT.bf.cell
     have HOF:Hid (out=F):=hoF
     clear HI hout hoF
     gi_wp2
     refine ⟨by simp,.inl ⟨_,_,rfl,run_takeDeferred hD',?_⟩⟩
     rw [← HOF.out]
     refine ⟨_,results_tmp rfl _ _ _,va,vc,rfl,ownsRow_putObj hT.rt _ hD' rfl,hT.bel.trans (belowK_b (w:=w) (Nat.le_refl _) _ D _ _ (by omega) hD' rfl rfl)⟩
end Go.Proofs.Ytkigcdmlkmcdcaa
