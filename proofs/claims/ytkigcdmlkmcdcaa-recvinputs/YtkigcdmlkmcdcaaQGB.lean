/- GB: Deep Boxes. -/
import Derived.Test.YtkigcdmlkmcdcaaQZ
import Derived.RangeFuncNested
import Derived.RangeFuncBound
import Derived.RangeFuncCalls
import Derived.RangeFuncLeaves
import Derived.RangeFuncBox
import Derived.Shelf.Abstract
import Derived.Shelf.RegionOpen
import Derived.WalkKit
import Derived.OwnWalkIn
import Derived.TacticsInMore
import Derived.LoopNIn
import Derived.LoopIn
import Derived.ProofKit
import Derived.OpenShut
import Derived.Scope
import Derived.WalkMore
import Derived.Below
import Derived.OwnWalk
import Derived.Laws.AppendOwn
import Derived.Laws.OwnMore
/- A loop over an iterator that itself loops over another one: what is whose. Blocks below b and those of Z are the loop's own, all others the iterator's; R's are read by the iterator. -/
namespace Go.Proofs.Ytkigcdmlkmcdcaa
open Go.RowKit
set_option linter.unusedVariables false
variable {F:Fence} {n:Nat} {P:Program} {α:Type}
structure Apart (b:Nat) (Z:Nat→Prop) (X Y:World):Prop where
 flat:Below 0 X Y
 same:∀ k,k<X.heap.size→(k<b∨Z k)→Y.heap[k]? = X.heap[k]?
structure Mine (b:Nat) (R Z:Nat→Prop) (X:World) (Z':Nat→Prop) (Y:World):Prop where
 flat:Below 0 X Y
 new:∀ k,Z' k→Z k∨X.heap.size≤k
 lt:∀ k,Z' k→k<Y.heap.size
 same:∀ k,k<X.heap.size→(R k∨b≤k)→¬Z k→Y.heap[k]? = X.heap[k]?
theorem Apart.refl (b:Nat) (Z:Nat→Prop) (X:World):Apart b Z X X:=⟨Below.refl _ _,fun _ _ _=>rfl⟩
theorem Apart.trans {b:Nat} {Z:Nat→Prop} {X Y V:World} (h:Apart b Z X Y) (k:Apart b Z Y V):Apart b Z X V :=
 ⟨h.flat.trans k.flat,fun i hi hz=>(k.same i (Nat.lt_of_lt_of_le hi h.flat.size) hz).trans (h.same i hi hz)⟩
theorem Apart.of_grown {b:Nat} {Z:Nat→Prop} {X Y:World} {row:Option Nat} (hg:X.grownBy Y row) (hr:∀ k,row=some k→b≤k∧¬Z k):Apart b Z X Y :=
 ⟨⟨hg.os,hg.tape,hg.output,hg.size,fun k hk=>by omega⟩,fun k hk hz=>hg.block k hk (fun e=>by have:=hr k e.symm;exact hz.elim (fun h=>by omega) (fun h=>this.2 h))⟩
theorem Apart.alloc (b:Nat) (Z:Nat→Prop) (X:World) (o:Obj):Apart b Z X (X.alloc o):=Apart.of_grown (World.grownBy_alloc X o none) (fun k e=>by cases e)
theorem Apart.mono {b b':Nat} {Z Z':Nat→Prop} {X Y:World} (h:Apart b Z X Y) (hb:b'≤b) (hZ:∀ k,Z' k→k<X.heap.size→Z k∨k<b):Apart b' Z' X Y :=
 ⟨h.flat,fun k hk hz=>h.same k hk (hz.elim (fun hz=>.inl (by omega)) (fun hz=>(hZ k hz hk).symm))⟩
theorem Mine.trans {b:Nat} {R Z Z' Z'':Nat→Prop} {X Y V:World} (h:Mine b R Z X Z' Y) (k:Mine b R Z' Y Z'' V):Mine b R Z X Z'' V :=
 ⟨h.flat.trans k.flat,fun i hi=>by
  rcases k.new i hi with h1|h1
  · exact h.new i h1
  · exact .inr (Nat.le_trans h.flat.size h1),k.lt,fun i hi hr hz=>(k.same i (Nat.lt_of_lt_of_le hi h.flat.size) hr (fun hz'=>by
    rcases h.new i hz' with h1|h1
    · exact hz h1
    · omega)).trans (h.same i hi hr hz)⟩
theorem Mine.refl {b:Nat} {R Z:Nat→Prop} {X:World} (hZ:∀ k,Z k→k<X.heap.size):Mine b R Z X Z X:=⟨Below.refl _ _,fun _ h=>.inl h,hZ,fun _ _ _ _=>rfl⟩
theorem Mine.of_grown {b:Nat} {R Z:Nat→Prop} {X Y:World} {row:Option Nat} (hg:X.grownBy Y row) (hZ:∀ k,Z k→k<X.heap.size) (hr:∀ k,row=some k→Z k∨(k<b∧¬R k)):Mine b R Z X Z Y :=
 ⟨⟨hg.os,hg.tape,hg.output,hg.size,fun k hk=>by omega⟩,fun _ h=>.inl h,fun k hk=>Nat.lt_of_lt_of_le (hZ k hk) hg.size,fun k hk hR hz=>hg.block k hk (fun e=>by
  rcases hr k e.symm with h|⟨h1,h2⟩
  · exact hz h
  · rcases hR with h|h
    · exact h2 h
    · omega)⟩
theorem Mine.alloc {b:Nat} {R Z:Nat→Prop} {X:World} (hZ:∀ k,Z k→k<X.heap.size) (o:Obj):Mine b R Z X Z (X.alloc o):=Mine.of_grown (World.grownBy_alloc X o none) hZ (fun k e=>by cases e)
def zdt (b:Nat) (J:List α→(Nat→Prop)→World→Prop):Prop:=∀ pre Z X Y,J pre Z X→Apart b Z X Y→J pre Z Y
def zch (F:Fence) (n:Nat) (P:Program) (g:Nat) (lb:Array Value) (encs:α→Array Value) (R:Nat→Prop) (S Sp G:List α→Prop) (w:World):Prop :=
 ∀ (l:Nat) (J Jx:List α→(Nat→Prop)→World→Prop) (W:World),Below w.heap.size w W→zdt W.heap.size J→zdt W.heap.size Jx →
  (∀ pre x Z W1,J pre Z W1→W.heap.size≤W1.heap.size→(∀ k,Z k→W.heap.size≤k∧k<W1.heap.size)→G (pre++[x])→YieldAt F (n-1) P l (encs x) W1 fun e W' =>
   ∃ Z',Mine W.heap.size R Z W1 Z' W'∧((e=.returned (.bool true)∧J (pre++[x]) Z' W')∨(e=.returned (.bool false)∧Jx (pre++[x]) Z' W'))) →
  J [] (fun _=>False) W →
  CallsIn F n P g (#[.func (.yield l) #[] #[]]++lb) W fun e W'=>(∃ v,e=.returned v)∧((∃ xs Z,S xs∧J xs Z W')∨(∃ pre Z,Sp pre∧Jx pre Z W'))
theorem zch.inRound {g:Nat} {lb:Array Value} {encs:α→Array Value} {R:Nat→Prop} {S Sp G:List α→Prop} {w:World} (l:Nat)
 (h:zch F n P g lb encs R S Sp G w):zch (F.inRound l) n P g lb encs R S Sp G w:=h
def deepPost (b:Nat) (R:Nat→Prop) (I:List α→(Nat→Prop)→World→Prop) (Ix:Code→List α→(Nat→Prop)→World→Prop) (xs:List α) (Z:Nat→Prop) (W:World):Exit→Act→World→Prop
 | .normal,_,W'=>∃ Z',Mine b R Z W Z' W'∧I xs Z' W'
 | .ret,_,W'=>∃ Z',Mine b R Z W Z' W'∧Ix .ret xs Z' W'
 | .exit id,_,W'=>∃ Z',Mine b R Z W Z' W'∧Ix (.exit id) xs Z' W'
 | .goto t,_,W'=>∃ Z',Mine b R Z W Z' W'∧Ix (.goto t) xs Z' W'
 | .panic _,_,_=>False
 | .outgrown,_,_=>False
def zci (F:Fence) (m:Nat) (P:Program) (b:Nat) (R:Nat→Prop) (I:List α→(Nat→Prop)→World→Prop) (Ix:Code→List α→(Nat→Prop)→World→Prop) (xs:List α) (Z:Nat→Prop) (l:Nat) (assign body:Code) (tmps:Array Value) (W:World):Prop :=
 assign.wpIn (F.inRound l) m P (Exit.then (fun a' W'=>Mine b R Z W Z W'∧∀ W'',W'.grownBy W'' (some l)→(∃ r,W''.heap[l]? = some (.loop r))→body.wpIn (F.inRound l) m P (deepPost b R I Ix xs Z W'') a' W'') (fun _ _ _=>False)) { tmps:=tmps,defers:=[]} W
theorem yield_deep {fn:FuncId} (hfn:F.fn fn) {m L D:Nat} {tm:Array Value} {ps:Array Tmp} {assign body:Code} {W:World} {args:Array Value}
 (hl:W.heap[L]? = some (.loop { state:=.ready,pending:=none,fn,tmps:=tm,params:=ps,assign,body,defers:=D})) (hps:args.size=ps.size)
 {b:Nat} {R Z:Nat→Prop} (hb:b≤L) (hZ:¬Z L) {I:List α→(Nat→Prop)→World→Prop} {Ix:Code→List α→(Nat→Prop)→World→Prop} {xs:List α}
 (h:zci F m P b R I Ix xs Z L assign body ((ps.zip args).foldl (fun t (p,v)=>t.setIfInBounds p v) tm) W) :
 YieldAt F m P L args W fun e W'=>∃ Z' W3,Below 0 W W3∧(∀ k,Z' k→Z k∨W.heap.size≤k)∧(∀ k,Z' k→k<W3.heap.size)∧(∀ k,k<W.heap.size→(R k∨b≤k)→k≠L→¬Z k→W3.heap[k]? = W.heap[k]?)∧(∃ r,W3.heap[L]? = some (.loop r)) ∧
  ((e=.returned (.bool true)∧I xs Z' W3∧W'=W3.putObj L (.loop { state:=.ready,pending:=none,fn,tmps:=tm,params:=ps,assign,body,defers:=D})) ∨
   (∃ c,e=.returned (.bool false)∧Ix c xs Z' W3∧W'=W3.putObj L (.loop { state:=.done,pending:=some c,fn,tmps:=tm,params:=ps,assign,body,defers:=D}))):=by
 have hL:L<W.heap.size:=(Array.getElem?_eq_some_iff.1 hl).1
 refine ⟨fn,_,assign,body,run_yield hl hps,roundIn_of_wpIn hfn (wpIn_mono h ?_)⟩
 rintro e a' Wa hq
 cases e with
 | normal =>
  obtain ⟨hM,hbody⟩:=hq
  have hla:=(hM.same L hL (.inr hb) hZ).trans hl
  have hLa:L<Wa.heap.size:=(Array.getElem?_eq_some_iff.1 hla).1
  refine ⟨_,run_beginRound hla rfl,?_⟩
  have hlb:=World.putObj_heap_same (o:=.loop { state:=.busy,pending:=none,fn,tmps:=tm,params:=ps,assign,body,defers:=D}) hLa
  refine wpIn_mono (hbody _ (grownBy_putObj' _ _ _) ⟨_,hlb⟩) ?_
  have fin:∀ (Z':Nat→Prop) (W3:World),Mine b R Z (Wa.putObj L (.loop { state:=.busy,pending:=none,fn,tmps:=tm,params:=ps,assign,body,defers:=D})) Z' W3 →
   W3.heap[L]? = some (.loop { state:=.busy,pending:=none,fn,tmps:=tm,params:=ps,assign,body,defers:=D})∧Below 0 W W3∧(∀ k,Z' k→Z k∨W.heap.size≤k)∧(∀ k,Z' k→k<W3.heap.size)∧(∀ k,k<W.heap.size→(R k∨b≤k)→k≠L→¬Z k→W3.heap[k]? = W.heap[k]?):=by
   intro Z' W3 h3
   have hg:=grownBy_putObj' Wa L (.loop { state:=.busy,pending:=none,fn,tmps:=tm,params:=ps,assign,body,defers:=D})
   have hsz:=hM.flat.size
   have hsz2:=hg.size
   refine ⟨(h3.same L (by omega) (.inr hb) hZ).trans hlb,hM.flat.trans (Below.trans ⟨hg.os,hg.tape,hg.output,hg.size,fun k hk=>by omega⟩ h3.flat),fun k hk=>?_,h3.lt,fun k hk hR hne hz=>?_⟩
   · rcases h3.new k hk with h|h
     · exact .inl h
     · exact .inr (by omega)
   · exact ((h3.same k (by omega) hR hz).trans (World.putObj_heap_other (fun e=>hne e))).trans (hM.same k hk hR hz)
  rintro e a3 W3 hp
  cases e with
  | normal =>
   obtain ⟨Z',h3,hi⟩:=hp
   obtain ⟨hl3,f1,f2,f3,f4⟩:=fin Z' W3 h3
   exact ⟨_,_,run_endRound none hl3,Z',W3,f1,f2,f3,f4,⟨_,hl3⟩,.inl ⟨rfl,hi,rfl⟩⟩
  | ret =>
   obtain ⟨Z',h3,hi⟩:=hp
   obtain ⟨hl3,f1,f2,f3,f4⟩:=fin Z' W3 h3
   exact ⟨_,_,run_endRound (some .ret) hl3,Z',W3,f1,f2,f3,f4,⟨_,hl3⟩,.inr ⟨_,rfl,hi,rfl⟩⟩
  | exit id =>
   obtain ⟨Z',h3,hi⟩:=hp
   obtain ⟨hl3,f1,f2,f3,f4⟩:=fin Z' W3 h3
   exact ⟨_,_,run_endRound (some (.exit id)) hl3,Z',W3,f1,f2,f3,f4,⟨_,hl3⟩,.inr ⟨_,rfl,hi,rfl⟩⟩
  | goto t =>
   obtain ⟨Z',h3,hi⟩:=hp
   obtain ⟨hl3,f1,f2,f3,f4⟩:=fin Z' W3 h3
   exact ⟨_,_,run_endRound (some (.goto t)) hl3,Z',W3,f1,f2,f3,f4,⟨_,hl3⟩,.inr ⟨_,rfl,hi,rfl⟩⟩
  | panic ch=>exact hp.elim
  | outgrown=>exact hp.elim
 | ret=>exact hq.elim
 | exit id=>exact hq.elim
 | goto t=>exact hq.elim
 | panic ch=>exact hq.elim
 | outgrown=>exact hq.elim
theorem zcz {g:Operand} {ps:Array Tmp} {assign body:Code} {Q:Exit→Act→World→Prop} {a:Act} {w:World}
 (hro:F.round=none) (h1:1≤n) {gf:Nat} {lb:Array Value} (hg:a.eval g=.func (.func gf) #[] lb) (hFg:F.fn gf) (eg:∀ args w,(callFunc gf args).run P w=.ok (.enter gf args) w)
 {encs:α→Array Value} {R:Nat→Prop} {S Sp G:List α→Prop} {w0:World} (hseq:zch F (n-1) P gf lb encs R S Sp G w0) (hb0:Below w0.heap.size w0 w) (hps:∀ x,(encs x).size=ps.size)
 (hR:∀ k,R k→k<w.heap.size)
 (I:List α→(Nat→Prop)→World→Prop) (Ix:Code→List α→(Nat→Prop)→World→Prop) (hI:zdt w.heap.size I) (hIx:∀ c,zdt w.heap.size (Ix c)) (h0:I [] (fun _=>False) w)
 (hround:∀ (l:Nat) (pre:List α) (x:α) (Z:Nat→Prop) (W:World),w.heap.size≤l→l<W.heap.size→(∀ k,Z k→w.heap.size≤k∧k<W.heap.size∧k≠l)→I pre Z W→G (pre++[x]) →
  zci F (n-1-1) P w.heap.size R I Ix (pre++[x]) Z l assign body ((ps.zip (encs x)).foldl (fun t (p,v)=>t.setIfInBounds p v) a.tmps) W)
 (hdone:∀ (D:Nat) (xs:List α) (Z:Nat→Prop) (W:World),w.heap.size≤D→(∀ k,Z k→w.heap.size≤k∧k<W.heap.size∧k≠D)→S xs→I xs Z W→W.heap[D]? = some (.deferred (some []))→Q .normal { a with defers:={ target:=.collected D,args:=#[]}::a.defers} W)
 (hstop:∀ (D:Nat) (c:Code) (pre:List α) (Z:Nat→Prop) (W:World),w.heap.size≤D→(∀ k,Z k→w.heap.size≤k∧k<W.heap.size∧k≠D)→Sp pre→Ix c pre Z W→W.heap[D]? = some (.deferred (some []))→c.wpIn F n P Q { a with defers:={ target:=.collected D,args:=#[]}::a.defers} W) :
 (Code.rangeFunc g ps assign body).wpIn F n P Q a w:=by
 refine wpIn_rangeFunc ?_
 intro fn hfn
 rw [hro]
 obtain ⟨W1,hW1⟩:∃ W1,(w.alloc (.deferred (some []))).alloc (.loop { state:=.ready,pending:=none,fn,tmps:=a.tmps,params:=ps,assign,body,defers:=w.heap.size})=W1:=⟨_,rfl⟩
 have hL1:W1.heap[w.heap.size+1]? = some (.loop { state:=.ready,pending:=none,fn,tmps:=a.tmps,params:=ps,assign,body,defers:=w.heap.size}):=by
  rw [← hW1];have:=World.alloc_heap_new (w.alloc (.deferred (some []))) (.loop { state:=.ready,pending:=none,fn,tmps:=a.tmps,params:=ps,assign,body,defers:=w.heap.size});rwa [World.size_alloc] at this
 have hK1:W1.heap[w.heap.size]? = some (.deferred (some [])):=by
  rw [← hW1];exact (Below.heap_alloc _ _ _ (by simp)).trans (World.alloc_heap_new w _)
 have hs1:W1.heap.size=w.heap.size+2:=by rw [← hW1];simp
 have hI1:I [] (fun _=>False) W1:=by rw [← hW1];exact hI _ _ _ _ (hI _ _ _ _ h0 (Apart.alloc _ _ _ _)) (Apart.alloc _ _ _ _)
 have hb1:Below w0.heap.size w0 W1:=by
  rw [← hW1];exact hb0.trans ((((Below.refl _ w).alloc (Nat.le_refl _) _).alloc (by simp) _).mono hb0.size)
 refine ⟨w.heap.size+1,[{ target:=.collected w.heap.size,args:=#[]}],W1,{ target:=.fn (.func gf) lb,args:=#[.func (.yield (w.heap.size+1)) #[] #[]]},W1,gf,
  #[.func (.yield (w.heap.size+1)) #[] #[]]++lb,W1,?_,?_,?_,?_,fun _=>h1,?_⟩
 · rw [← hW1];exact run_enterLoop_outer _ _ _ _ _
 · simp only [resolve,hg]
   simp [go_sem]
 · intro f' hf';simp [Target.leads] at hf';subst hf';exact hFg
 · simp [invoke,go_sem,eg]
 · refine (hseq (w.heap.size+1)
    (fun pre Z W=>I pre Z W∧W.heap[w.heap.size+1]? = some (.loop { state:=.ready,pending:=none,fn,tmps:=a.tmps,params:=ps,assign,body,defers:=w.heap.size})∧W.heap[w.heap.size]? = some (.deferred (some []))∧(∀ k,Z k→w.heap.size+2≤k∧k<W.heap.size))
    (fun pre Z W=>∃ c,Ix c pre Z W∧W.heap[w.heap.size+1]? = some (.loop { state:=.done,pending:=some c,fn,tmps:=a.tmps,params:=ps,assign,body,defers:=w.heap.size})∧W.heap[w.heap.size]? = some (.deferred (some []))∧(∀ k,Z k→w.heap.size+2≤k∧k<W.heap.size))
    W1 hb1 ?_ ?_ ?_ ⟨hI1,hL1,hK1,fun k h=>h.elim⟩).mono ?_
   · rintro pre Z X Y ⟨hi,hl,hk,hz⟩ hA
     refine ⟨hI _ _ _ _ hi (hA.mono (by omega) (fun k h _=>.inl h)),(hA.same _ (Array.getElem?_eq_some_iff.1 hl).1 (.inl (by omega))).trans hl,(hA.same _ (Array.getElem?_eq_some_iff.1 hk).1 (.inl (by omega))).trans hk,fun k h=>⟨(hz k h).1,Nat.lt_of_lt_of_le (hz k h).2 hA.flat.size⟩⟩
   · rintro pre Z X Y ⟨c,hi,hl,hk,hz⟩ hA
     refine ⟨c,hIx c _ _ _ _ hi (hA.mono (by omega) (fun k h _=>.inl h)),(hA.same _ (Array.getElem?_eq_some_iff.1 hl).1 (.inl (by omega))).trans hl,(hA.same _ (Array.getElem?_eq_some_iff.1 hk).1 (.inl (by omega))).trans hk,fun k h=>⟨(hz k h).1,Nat.lt_of_lt_of_le (hz k h).2 hA.flat.size⟩⟩
   · rintro pre x Z W ⟨hi,hl,hk,hz⟩ hsz hz2 hlen
     have hlt:w.heap.size+1<W.heap.size:=(Array.getElem?_eq_some_iff.1 hl).1
     have hkt:w.heap.size<W.heap.size:=(Array.getElem?_eq_some_iff.1 hk).1
     have hnz:∀ j,Z j→w.heap.size+2≤j:=fun j hj=>(hz j hj).1
     refine (yield_deep (I:=I) (Ix:=Ix) (xs:=pre++[x]) (Z:=Z) (R:=R) (b:=w.heap.size) hfn hl (hps x) (by omega) (fun h=>by have:=hnz _ h;omega) (hround _ pre x Z W (by omega) hlt (fun k hk=>⟨by have:=hnz k hk;omega,(hz k hk).2,by have:=hnz k hk;omega⟩) hi hlen)).mono ?_
     rintro e W' ⟨Z',W3,f1,f2,f3,f4,⟨r3,hl3⟩,hcase⟩
     have hk3:W3.heap[w.heap.size]? = some (.deferred (some [])):=(f4 _ hkt (.inr (Nat.le_refl _)) (by omega) (fun h=>by have:=hnz _ h;omega)).trans hk
     have hl3t:w.heap.size+1<W3.heap.size:=(Array.getElem?_eq_some_iff.1 hl3).1
     have hz3:∀ k,Z' k→w.heap.size+2≤k∧k<W3.heap.size:=fun k hk=>⟨(f2 k hk).elim (fun h=>hnz k h) (fun h=>by omega),f3 k hk⟩
     have mine:∀ o,Mine W1.heap.size R Z W Z' (W3.putObj (w.heap.size+1) o):=fun o=>by
      have hgp:=grownBy_putObj' W3 (w.heap.size+1) o
      refine ⟨f1.trans ⟨hgp.os,hgp.tape,hgp.output,hgp.size,fun k hk=>by omega⟩,f2,fun k hk=>Nat.lt_of_lt_of_le (f3 k hk) hgp.size,fun k hk hRk hzk=>?_⟩
      have hne:k≠w.heap.size+1:=by
       rcases hRk with h|h
       · have:=hR k h;omega
       · omega
      exact (World.putObj_heap_other (fun e=>hne e)).trans (f4 k hk (hRk.imp id (fun h=>by omega)) hne hzk)
     have ap:∀ o,Apart w.heap.size Z' W3 (W3.putObj (w.heap.size+1) o):=fun o=>Apart.of_grown (grownBy_putObj' W3 (w.heap.size+1) o) (fun k e=>by cases e;exact ⟨by omega,fun h=>by have:=(hz3 _ h).1;omega⟩)
     have sz:∀ o,(W3.putObj (w.heap.size+1) o).heap.size=W3.heap.size:=fun o=>by simp
     rcases hcase with ⟨rfl,hi3,rfl⟩|⟨c,rfl,hi3,rfl⟩
     · exact ⟨Z',mine _,.inl ⟨rfl,hI _ _ _ _ hi3 (ap _),World.putObj_heap_same hl3t,(World.putObj_heap_other (by omega)).trans hk3,fun k hk=>by rw [sz];exact hz3 k hk⟩⟩
     · exact ⟨Z',mine _,.inr ⟨rfl,c,hIx c _ _ _ _ hi3 (ap _),World.putObj_heap_same hl3t,(World.putObj_heap_other (by omega)).trans hk3,fun k hk=>by rw [sz];exact hz3 k hk⟩⟩
   · rintro e W2 ⟨⟨v,rfl⟩,(⟨xs,Z,hS,hi,hl,hk,hz⟩|⟨pre,Z,hSp,c,hi,hl,hk,hz⟩)⟩
     · have ap:∀ o,Apart w.heap.size Z W2 (W2.putObj (w.heap.size+1) o):=fun o=>Apart.of_grown (grownBy_putObj' W2 (w.heap.size+1) o) (fun k e=>by cases e;exact ⟨by omega,fun h=>by have:=(hz _ h).1;omega⟩)
       exact ⟨none,_,run_endLoop hl (by simp),hdone _ xs Z _ (Nat.le_refl _) (fun k hk=>⟨by have:=(hz k hk).1;omega,by simpa using (hz k hk).2,by have:=(hz k hk).1;omega⟩) hS (hI _ _ _ _ hi (ap _)) ((World.putObj_heap_other (by omega)).trans hk)⟩
     · have ap:∀ o,Apart w.heap.size Z W2 (W2.putObj (w.heap.size+1) o):=fun o=>Apart.of_grown (grownBy_putObj' W2 (w.heap.size+1) o) (fun k e=>by cases e;exact ⟨by omega,fun h=>by have:=(hz _ h).1;omega⟩)
       exact ⟨some c,_,run_endLoop hl (by simp),hstop _ c pre Z _ (Nat.le_refl _) (fun k hk=>⟨by have:=(hz k hk).1;omega,by simpa using (hz k hk).2,by have:=(hz k hk).1;omega⟩) hSp (hIx c _ _ _ _ hi (ap _)) ((World.putObj_heap_other (by omega)).trans hk)⟩
theorem zf4 {c:Code} {Q:Exit→Act→World→Prop} {a:Act} {w:World} (h:c.wpIn F n P (Exit.noGoto Q) a w):(Code.scope c).wpIn F n P Q a w:=by
 intro b k cs hro hb hr
 have h0:(lone (b.atR a (.code (.scope c)::k)) cs w).fenced P F:=fenced_calm hb hr rfl
 have h1:step P (lone (b.atR a (.code (.scope c)::k)) cs w)=.next (lone (b.atR a (.code c::.inScope c::k)) cs w):=step_lone_go (by simp [stepG,stepG.exec,Frame.atR])
 obtain ⟨e,a₁,w₁,hq,harr⟩:=h b (.inScope c::k) cs hro hb hr
 cases e with
 | normal =>
  have h2:step P (lone (b.atR a₁ (.inScope c::k)) cs w₁)=.next (lone (b.atR a₁ k) cs w₁):=step_lone_go (by simp [stepG,stepG.exec,Frame.atR])
  exact ⟨.normal,a₁,w₁,hq,.head h0 h1 (StepsIn.trans harr (.one (fenced_calm hb hr rfl) h2))⟩
 | exit id =>
  have hx:exitTo id (.inScope c::k)=exitTo id k:=by simp [exitTo]
  exact ⟨.exit id,a₁,w₁,hq,fun k' hk=>.head h0 h1 (harr.1 k' (by rw [hx];exact hk)),
   fun hr' hk=>let ⟨k₁,g1,g2⟩:=harr.2 hr' (by rw [hx];exact hk);⟨k₁,g1,.head h0 h1 g2⟩⟩
 | goto l=>exact hq.elim
 | ret=>exact ⟨_,a₁,w₁,hq,.of_steps (.one h0 h1) harr⟩
 | panic ch=>exact ⟨_,a₁,w₁,hq,.of_steps (.one h0 h1) harr⟩
 | outgrown=>exact ⟨_,a₁,w₁,hq,.of_steps (.one h0 h1) harr⟩
theorem zdu (hd:F.depth=none) {m:Nat} (m':Nat) {l:Nat} {args:Array Value} {W:World} {R:Ending→World→Prop} (h:YieldAt F m P l args W R):YieldAt F m' P l args W R:=by
 obtain ⟨fn,tmps,assign,body,hy,hR⟩:=h
 exact ⟨fn,tmps,assign,body,hy,hR.1,fun c cs _=>hR.2 c cs (fun d hd'=>by rw [hd] at hd';cases hd')⟩
end Go.Proofs.Ytkigcdmlkmcdcaa
/- Boxes of structs, of whatever size: what lies in them, stores of one cell and of all, other blocks. -/
namespace Go.Proofs.Ytkigcdmlkmcdcaa
open Go.RowKit
set_option linter.unusedVariables false
def Box (W:World) (g:Nat) (t:TypeId) (cs:List Value):Prop:=W.heap[g]? = some (.cells cs.toArray t (0,0))
theorem Box.lt {W:World} {g:Nat} {t:TypeId} {cs:List Value} (h:Box W g t cs):g<W.heap.size:=(Array.getElem?_eq_some_iff.1 h).1
theorem Box.cell {W:World} {g:Nat} {t:TypeId} {cs:List Value} (h:Box W g t cs) (i:Nat) {v:Value} (hv:cs[i]? = some v):W.cell? ⟨g,i,none⟩=some v:=by
 simp [World.cell?,show W.heap[g]? = _ from h,hv]
theorem Box.frozen {W:World} {g:Nat} {t:TypeId} {cs:List Value} (h:Box W g t cs) (i:Nat):W.frozen? ⟨g,i,none⟩=false:=by simp [World.frozen?,show W.heap[g]? = _ from h]
theorem Box.new (W:World) (t:TypeId) (cs:List Value):Box (W.alloc (.cells cs.toArray t)) W.heap.size t cs:=heap_alloc_new W _
theorem Box.below {W W':World} {g n:Nat} {t:TypeId} {cs:List Value} (h:Box W g t cs) (hb:Below n W W') (hn:g<n):Box W' g t cs:=(hb.block g hn).trans h
theorem Box.later {W W':World} {g:Nat} {t:TypeId} {cs:List Value} (h:Box W g t cs) (hb:Below W.heap.size W W'):Box W' g t cs:=h.below hb h.lt
theorem Box.alloc {W:World} {g:Nat} {t:TypeId} {cs:List Value} (h:Box W g t cs) (o:Obj):Box (W.alloc o) g t cs:=h.later ((Below.refl _ W).alloc (Nat.le_refl _) o)
theorem Box.of_heap {W W':World} {g:Nat} {t:TypeId} {cs:List Value} (h:Box W g t cs) (e:W'.heap=W.heap):Box W' g t cs:=by unfold Box;rw [e];exact h
theorem zgt (W:World) (a:Addr) (x:Value) (cs:Array Value) (t:TypeId) (fr:Nat×Nat) (hs:a.spot=none) (h:W.heap[a.block]? = some (.cells cs t fr)):(W.setCell a x).heap[a.block]? = some (.cells (cs.setIfInBounds a.off x) t fr):=by
 unfold World.setCell
 simp [Array.getElem?_modify]
 exact ⟨_,h,by simp [hs]⟩
theorem Box.set {W:World} {g:Nat} {t:TypeId} {cs:List Value} (h:Box W g t cs) (i:Nat) (v:Value):Box (W.setCell ⟨g,i,none⟩ v) g t (cs.set i v):=by
 have:=zgt W ⟨g,i,none⟩ v cs.toArray t (0,0) rfl h
 unfold Box
 rw [this]
 simp
theorem Box.aside {W:World} {g:Nat} {t:TypeId} {cs:List Value} (h:Box W g t cs) (p i:Nat) (v:Value) (hp:g≠p):Box (W.setCell ⟨p,i,none⟩ v) g t cs:=(Below.heap_setCell W ⟨p,i,none⟩ v g hp).trans h
theorem Box.ne {W:World} {g p:Nat} {t t':TypeId} {cs:List Value} {cs':Array Value} {fr:Nat×Nat} (h:Box W g t cs) (h':W.heap[p]? = some (.cells cs' t' fr)) (ht:t≠t'):g≠p:=by
 rintro rfl
 have h1:W.heap[g]? = some (.cells cs.toArray t (0,0)):=h
 rw [h1] at h'
 injection h' with e
 injection e with _ e2 _
 exact ht e2
def setAll (w:World) (g:Nat):Nat→List Value→World
 | _,[]=>w
 | i,v::r=>setAll (w.setCell ⟨g,i,none⟩ v) g (i+1) r
theorem zbw {g:Nat}:∀ {vs:List Value} {i:Nat} {w:World} {k:Nat},k≠g→(setAll w g i vs).heap[k]? = w.heap[k]?
 | [],_,_,_,_=>rfl
 | v::r,i,w,k,h=>by rw [setAll,zbw h];exact Below.heap_setCell w ⟨g,i,none⟩ v k h
theorem zdy {g:Nat}:∀ {vs:List Value} {i:Nat} {w:World},(setAll w g i vs).heap.size=w.heap.size
 | [],_,_=>rfl
 | v::r,i,w=>by rw [setAll,zdy];simp [World.setCell]
theorem zaf {B g:Nat} {a:World} (hg:B≤g):∀ {vs:List Value} {i:Nat} {w:World},Below B a w→Below B a (setAll w g i vs)
 | [],_,_,h=>h
 | v::r,i,w,h=>by rw [setAll];exact zaf hg (h.setCell (p:=⟨g,i,none⟩) hg v)
theorem zf9 {g:Nat} {t:TypeId}:∀ {vs:List Value} {i:Nat} {w:World} {cs:List Value},Box w g t cs→i+vs.length=cs.length→Box (setAll w g i vs) g t (cs.take i++vs)
 | [],i,w,cs,h,hl=>by
  have:cs.take i++[]=cs:=by rw [List.append_nil,List.take_of_length_le (by simp at hl;omega)]
  rw [this];exact h
 | v::r,i,w,cs,h,hl=>by
  have hi:i<cs.length:=by simp at hl;omega
  have ih:=zf9 (vs:=r) (i:=i+1) (h.set i v) (by simp at hl ⊢;omega)
  rw [setAll]
  have e:(cs.set i v).take (i+1)++r=cs.take i++v::r:=by
   rw [List.take_add_one,List.take_set_of_le (Nat.le_refl i)]
   simp [hi]
  rw [e] at ih
  exact ih
theorem Box.put {W:World} {g:Nat} {t:TypeId} {cs:List Value} (h:Box W g t cs) (vs:List Value) (hl:vs.length=cs.length):Box (setAll W g 0 vs) g t vs:=by
 have:=zf9 (vs:=vs) (i:=0) h (by omega)
 simpa using this
theorem Box.putAside {W:World} {g:Nat} {t:TypeId} {cs:List Value} (h:Box W g t cs) (p i:Nat) (vs:List Value) (hp:g≠p):Box (setAll W p i vs) g t cs:=(zbw hp).trans h
theorem zam {w:World} {B:Nat} {e:TypeId} {s:Nat} {v:Value} {n:Nat} {xs:List Value} (h:w.ownsRow B e s v n xs) (p i:Nat) (vs:List Value) (hp:p<B):(setAll w p i vs).ownsRow B e s v n xs:=by
 refine ⟨h.1,?_⟩
 rcases h.2 with h'|⟨g,c,cur,e1,hB,hh,r⟩
 · exact .inl h'
 · exact .inr ⟨g,c,cur,e1,hB,(zbw (by omega)).trans hh,r⟩
theorem zav {w:World} {B:Nat} {e:TypeId} {s:Nat} {v:Value} {n:Nat} {xs:List Value} (h:w.ownsRow B e s v n xs) {p:Nat} {t:TypeId} {cs:List Value} (hb:Box w p t cs) (ht:t≠e) (i:Nat) (vs:List Value):(setAll w p i vs).ownsRow B e s v n xs:=by
 refine ⟨h.1,?_⟩
 rcases h.2 with h'|⟨g,c,cur,e1,hB,hh,r⟩
 · exact .inl h'
 · exact .inr ⟨g,c,cur,e1,hB,(zbw (fun e2=>hb.ne hh ht e2.symm)).trans hh,r⟩
theorem Box.grown {w w':World} {g:Nat} {t:TypeId} {cs:List Value} (h:Box w g t cs) {B:Nat} {e:TypeId} {s:Nat} {v:Value} {n:Nat} {xs:List Value} (hR:w.ownsRow B e s v n xs) (ht:t≠e) (hg:w.grownBy w' v.ownBlock):Box w' g t cs:=by
 refine (hg.block g h.lt ?_).trans h
 rcases hR.2 with ⟨rfl,_⟩|⟨p,c,cur,rfl,_,hh,_⟩
 · simp [Value.ownBlock]
 · simp only [Value.ownBlock,ne_eq,Option.some.injEq]
   exact h.ne hh ht
end Go.Proofs.Ytkigcdmlkmcdcaa
