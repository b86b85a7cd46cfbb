/- GF: Class Last Rnd Own Hold Find. -/
import Derived.Test.YtkigcdmlkmcdcaaQZ
import Derived.Test.YtkigcdmlkmcdcaaQGE
import Derived.Laws.MakeOwn
/- A region that draws its order, walked once in the order of the text: in every world of a class each operation yields one value, and calls stay in the class. -/
namespace Go.Proofs.Ytkigcdmlkmcdcaa
open Go.ChangeShapes Go.WideShapes Go.ChangeAt Go.RowKit
set_option linter.unusedVariables false
set_option linter.unusedSimpArgs false
variable {P:Program} {ops:Array Oper} {C:World→Prop}
theorem zbh {id:Nat} {Q:Exit→Act→World→Prop} {a:Act} {w:World} {l:List Oper} (C:World→Prop) (hm:P.follows .mixedOrders=true) (hB:Region.lexB .any l.toArray=true) (hC:C w.drew)
 (h:wpQuiet P l.toArray C (fun a'=>∀ w',C w'→Q .normal a' w') l a):(Code.region id l.toArray true).wp P Q a w :=
 wp_region_quiet (C:=C) hm hB hC (by simpa using h)
theorem zai {o:Oper} {a:Act} {K:Act→Prop} {v:Value} (hr:∀ w,C w→(execOp a.eval o).run P w=.ok (.value v) w) (hk:K (a.put o.dst v)):o.quiet P a C K :=
 ⟨v,fun w hw=>by unfold Oper.quietAt;rw [hr w hw];exact ⟨rfl,rfl⟩,hk⟩
theorem zcd {o:Oper} {a:Act} {K:Act→Prop} {v:Value} {f:FuncId} {args:Array Value} (hr:∀ w,C w→(execOp a.eval o).run P w=.ok (.enter f args) w) (hc:∀ w,C w→Calls P f args w fun e w'=>e=.returned v∧C w') (hk:K (a.put o.dst v)):o.quiet P a C K :=
 ⟨v,fun w hw=>by unfold Oper.quietAt;rw [hr w hw];exact ⟨rfl,hc w hw⟩,hk⟩
theorem zag {Q:Act→Prop} {a:Act} {o:Oper} {rest:List Oper} (hw:Region.wanted o (yielded ops a.tmps)=true) (h:o.quiet P a C (wpQuiet P ops C Q rest)):wpQuiet P ops C Q (o::rest) a:=by
 unfold wpQuiet;rw [if_pos hw];exact h
theorem za3 {Q:Act→Prop} {a:Act} {o:Oper} {rest:List Oper} (hw:Region.wanted o (yielded ops a.tmps)=false) (h:wpQuiet P ops C Q rest (a.put o.dst undef)):wpQuiet P ops C Q (o::rest) a:=by
 unfold wpQuiet;rw [if_neg (by rw [hw];exact Bool.false_ne_true)];exact h
section
variable {P:Program} {ops:Array Oper} {Q:Exit→Act→World→Prop} {md:Region.Mode} {S:World→Prop} {L:Nat}
def zb5 (P:Program) (md:Region.Mode) (ops:Array Oper) (Q:Exit→Act→World→Prop) (S:World→Prop) (L:Nat):Nat→Array Bool→Act→World→Prop
 | 0,done,a,w=>Region.ready md ops done=[]∧Q .normal a w
 | k+1,done,a,w=>(Region.ready md ops done=[]→Q .normal a w)∧∀ i∈Region.ready md ops done,wpOp P ops Q i (fun a' w'=>(i≠L→S w')∧zb5 P md ops Q S L k (done.setIfInBounds i true) a' w') a w
theorem zf6 (k:Nat):∀ (done:Array Bool) (a:Act) (w:World),zb5 P md ops Q S L k done a w→wpAny P md ops Q k done a w:=by
 induction k with
 | zero=>intro done a w h;exact h
 | succ k ih=>intro done a w h;exact ⟨h.1,fun i hi=>wpOp_mono (fun a' w' h'=>ih _ a' w' h'.2) (h.2 i hi)⟩
def Waits (md:Region.Mode) (ops:Array Oper) (L i:Nat):Prop:=∃ oL,ops[L]? = some oL∧∃ e∈oL.after,Region.binds md e=true∧e.on=i
theorem waits_not {done:Array Bool} {i:Nat} (hw:Waits md ops L i) (hi:i∈Region.ready md ops done):L ∉ Region.ready md ops done:=by
 intro hL
 obtain ⟨oL,h1,e,he,hb,rfl⟩:=hw
 obtain ⟨_,o',h2,hall⟩:=mem_ready.1 hL
 rw [h1] at h2
 cases h2
 have hyes:=hall e he hb
 have hno:=(mem_ready.1 hi).1
 rcases Nat.lt_or_ge e.on done.size with hlt|hge
 · simp [hlt] at hno hyes;rw [hno] at hyes;cases hyes
 · simp [Array.getElem?_eq_none hge] at hyes
theorem takeX {i:Nat} {oi:Oper} {v:Value} (hi:ops[i]? = some oi) (hsel:∀ (j:Nat) (o:Oper) cs b,ops[j]? = some o→o.op≠.select cs b)
 (hQ:∀ c a w,Q (.panic c) (a.put oi.dst v) w→Q (.panic c) a w) (hwt:Waits md ops L i) (hne:i≠L) (k:Nat) :
 ∀ (done:Array Bool) (a:Act) (w:World),
  (∀ j oj,ops[j]? = some oj→j≠i→done.getD j true=false→(∀ e∈oj.after,Region.binds md e=true→e.on≠i)→oi.apart ops oj=true) →
  i∈Region.ready md ops done→YieldsIf P ops S oi v a→S w →
  zb5 P md ops Q S L k (done.setIfInBounds i true) (a.put oi.dst v) w→zb5 P md ops Q S L (k+1) done a w:=by
 induction k with
 | zero =>
  intro done a w _ hr hy hS H
  constructor
  · intro h;rw [h] at hr;cases hr
  · intro j hj
    by_cases hji:j=i
    · subst hji;exact hy.wpOp hi hS ⟨fun _=>hS,H⟩
    · have h0:=ready_mono hj hji
      rw [H.1] at h0
      cases h0
 | succ k ih =>
  intro done a w hfree hr hy hS H
  constructor
  · intro h;rw [h] at hr;cases hr
  · intro j hj
    by_cases hji:j=i
    · subst hji;exact hy.wpOp hi hS ⟨fun _=>hS,H⟩
    · have hjL:j≠L:=fun e=>waits_not hwt hr (e▸hj)
      obtain ⟨hjun,oj,hoj,hall⟩:=mem_ready.1 hj
      have hfr:oi.apart ops oj=true:=by
       refine hfree j oj hoj hji hjun (fun e he hb heq=>?_)
       have hyes:=hall e he hb
       have hno:=(mem_ready.1 hr).1
       rw [heq] at hyes
       rcases Nat.lt_or_ge i done.size with hlt|hge
       · simp [hlt] at hno hyes;rw [hno] at hyes;cases hyes
       · simp [Array.getElem?_eq_none hge] at hyes
      have hstep:=wpOp_putIf hoj hfr (fun cs b=>hsel i oi cs b hi) (fun cs b=>hsel j oj cs b hoj) hQ hy (H.2 j (ready_mono hj hji))
      refine wpOp_mono (fun a' w' hk=>⟨fun _=>hk.2.1 hjL,?_⟩) hstep
      refine ih _ a' w' (fun m om hm hmi hun hno=>?_) (ready_mono hr (Ne.symm hji)) hk.1 (hk.2.1 hjL) ?_
      · refine hfree m om hm hmi ?_ hno
        by_cases hjm:j=m
        · subst hjm;exact hjun
        · rw [getD_set_ne true hjm] at hun;exact hun
      · rw [Array.setIfInBounds_comm _ _ hji];exact hk.2.2
theorem wpX_take {i:Nat} {oi:Oper} {v:Value} {k:Nat} {done:Array Bool} {a:Act} {w:World} (hi:ops[i]? = some oi) (hs:Region.noSelect ops=true) (hf:Region.free md ops done i=true) (hr:(Region.ready md ops done).contains i=true)
 (hQ:∀ c a w,Q (.panic c) (a.put oi.dst v) w→Q (.panic c) a w) (hwt:Waits md ops L i) (hne:i≠L) (hy:YieldsIf P ops S oi v a) (hS:S w)
 (h:zb5 P md ops Q S L k (done.setIfInBounds i true) (a.put oi.dst v) w):zb5 P md ops Q S L (k+1) done a w :=
 takeX hi (Region.noSelect_spec hs) hQ hwt hne k done a w (Region.free_spec hi hf) (by simpa using hr) hy hS h
def waitsB (md:Region.Mode) (ops:Array Oper) (L i:Nat):Bool:=(ops[L]?).any fun oL=>oL.after.any fun e=>Region.binds md e&&e.on==i
theorem waits_of {i:Nat} (h:waitsB md ops L i=true):Waits md ops L i:=by
 unfold waitsB at h
 obtain ⟨oL,h1,h2⟩:=(Option.any_eq_true ..).1 h
 obtain ⟨j,hj,h3⟩:=Array.any_eq_true.1 h2
 rw [Bool.and_eq_true] at h3
 exact ⟨oL,h1,_,Array.getElem_mem hj,h3.1,by simpa using h3.2⟩
theorem zk (i:Nat) {oi:Oper} {v:Value} {k:Nat} {done:Array Bool} {a:Act} {w:World} (y:∀ W,S W→(execOp a.eval oi).run P W=.ok (.value v) W)
 (h:zb5 P md ops Q S L k (done.setIfInBounds i true) (a.put oi.dst v) w) (hi:ops[i]? = some oi:=by rfl) (hs:Region.noSelect ops=true:=by kernel_rfl) (hf:Region.free md ops done i=true:=by kernel_rfl) (hr:(Region.ready md ops done).contains i=true:=by kernel_rfl)
 (hQ:∀ c a w,Q (.panic c) (a.put oi.dst v) w→Q (.panic c) a w:=by exact fun _ _ _ h=>h) (hwt:waitsB md ops L i=true:=by kernel_rfl) (hne:i≠L:=by decide) (hw:Region.wanted oi (yielded ops a.tmps)=true:=by rfl) (hS:S w:=by assumption):zb5 P md ops Q S L (k+1) done a w :=
 wpX_take hi hs hf hr hQ (waits_of hwt) hne (Or.inl ⟨hw,y⟩) hS h
theorem zah {i:Nat} {o:Oper} {k:Nat} {done:Array Bool} {a:Act} {w:World} (hr:Region.ready md ops done=[i]) (ho:ops[i]? = some o)
 (h:∀ K:Act→World→Prop,Shut (∀ a' w',((i≠L→S w')∧zb5 P md ops Q S L k (done.setIfInBounds i true) a' w')→K a' w')→if Region.wanted o (yielded ops a.tmps)=true then Oper.wp P o a w K Q else K (a.put o.dst undef) w):zb5 P md ops Q S L (k+1) done a w:=by
 constructor
 · intro h0;rw [hr] at h0;cases h0
 · intro j hj
   rw [hr] at hj
   obtain rfl:j=i:=by simpa using hj
   exact wpOp_step ho (fun K hK=>h K (fun a' w' hh=>hK a' w' hh))
theorem zfg {i j:Nat} {o o':Oper} {k:Nat} {done:Array Bool} {a:Act} {w:World} (hr:Region.ready md ops done=[i,j]) (ho:ops[i]? = some o) (ho':ops[j]? = some o')
 (h:∀ K:Act→World→Prop,Shut (∀ a' w',((i≠L→S w')∧zb5 P md ops Q S L k (done.setIfInBounds i true) a' w')→K a' w')→if Region.wanted o (yielded ops a.tmps)=true then Oper.wp P o a w K Q else K (a.put o.dst undef) w)
 (h':∀ K:Act→World→Prop,Shut (∀ a' w',((j≠L→S w')∧zb5 P md ops Q S L k (done.setIfInBounds j true) a' w')→K a' w')→if Region.wanted o' (yielded ops a.tmps)=true then Oper.wp P o' a w K Q else K (a.put o'.dst undef) w):zb5 P md ops Q S L (k+1) done a w:=by
 constructor
 · intro h0;rw [hr] at h0;cases h0
 · intro m hm
   rw [hr] at hm
   rcases (by simpa using hm:m=i∨m=j) with rfl|rfl
   · exact wpOp_step ho (fun K hK=>h K (fun a' w' hh=>hK a' w' hh))
   · exact wpOp_step ho' (fun K hK=>h' K (fun a' w' hh=>hK a' w' hh))
theorem zax {done:Array Bool} {a:Act} {w:World} (hr:Region.ready md ops done=[]) (h:Q .normal a w) (k:Nat):zb5 P md ops Q S L k done a w:=by
 cases k with
 | zero=>exact ⟨hr,h⟩
 | succ k=>exact ⟨fun _=>h,by rw [hr];simp⟩
theorem zaq {id:Nat} {a:Act} {w:World} (S:World→Prop) (L:Nat) (hm:P.follows .mixedOrders=true) (hS:S w.drew)
 (h:S w.drew→zb5 P .any ops Q S L ops.size (Array.replicate ops.size false) a w.drew):(Code.region id ops true).wp P Q a w :=
 wp_region_any hm (zf6 _ _ _ _ (h hS))
end
def FW (ro:Option Nat):Fence:={ Fence.wide with round:=ro}
theorem rowsIn_wide {n:Nat} {P:Program} {row:String} {args:Array Value} {w:World} {R:Value→World→Prop} (h:Rows P row args w R):RowsIn Fence.wide n P row args w R :=
 fun c cs _=>let ⟨v,w',r,s⟩:=h c cs;⟨v,w',r,stepsIn_wide.2 s⟩
section
variable {P:Program} {ops:Array Oper} {Q:Exit→Act→World→Prop}
def Op.isDefer:Op→Bool
 | .defer _=>true
 | _=>false
def zeo (ops:Array Oper):Bool:=ops.toList.all fun o => !Op.isDefer o.op
theorem noDefer_at (h:zeo ops=true) (i:Nat) (o:Oper) (ho:ops[i]? = some o) (c:Call):o.op≠.defer c:=by
 intro e
 have hm:o∈ops.toList:=by
  rw [← Array.getElem?_toList] at ho
  exact List.mem_of_getElem? ho
 have:=(List.all_eq_true.1 h) o hm
 rw [e] at this
 cases this
theorem zbf (ro:Option Nat) (n:Nat) (hd:zeo ops=true) (hq:¬LetsOut Q):∀ (l:List Nat) (a:Act) (w:World),wpOps P ops Q l a w→wpOpsIn (FW ro) n P ops Q l a w
 | [],a,w,h=>h
 | i::rest,a,w,h=>by
  unfold wpOps at h
  unfold wpOpsIn
  cases ho:ops[i]? with
  | none=>simp only [ho] at h ⊢;exact zbf ro n hd hq rest a w h
  | some o =>
   simp only [ho] at h ⊢
   by_cases hw:Region.wanted o (yielded ops a.tmps)=true
   · rw [if_pos hw] at h ⊢
     rcases h with h|⟨_,h⟩
     · unfold Oper.wp at h
       unfold Oper.wpIn
       rw [Oper.semAt_eq _ _ _ (noDefer_at hd i o ho)]
       refine ⟨fun _ _=>trivial,?_⟩
       generalize (execOp a.eval o).run P w=r at h
       cases r with
       | ok x w' =>
        cases x with
        | value v=>exact zbf ro n hd hq rest _ _ h
        | skip=>exact zbf ro n hd hq rest _ _ h
        | defer d=>exact zbf ro n hd hq rest _ _ h
        | enter f args =>
         refine ⟨fun h=>by simp [FW,Fence.wide] at h,?_⟩
         show CallsIn Fence.wide (n-1) P f args w' _
         refine callsIn_wide.2 (Calls.mono h (fun e w'' he=>?_))
         cases e with
         | returned v=>exact zbf ro n hd hq rest _ _ he
         | panicked c=>exact he
         | outgrown=>exact he
        | row r' args =>
         refine ⟨fun h=>by simp [FW,Fence.wide] at h,?_⟩
         show RowsIn Fence.wide (n-1) P r' args w' _
         exact rowsIn_wide (Rows.mono h (fun v w'' he=>zbf ro n hd hq rest _ _ he))
        | round l f tmps assign body=>exact h.elim
        | _=>exact h.elim
       | halt x w' =>
        cases x with
        | panic v=>exact h
        | _=>exact h.elim
     · exact absurd h hq
   · rw [if_neg hw] at h ⊢
     exact ⟨fun _ _=>trivial,zbf ro n hd hq rest _ _ h⟩
def onlyN (Q:Exit→Act→World→Prop):Exit→Act→World→Prop
 | .normal,a,w=>Q .normal a w
 | _,_,_=>False
theorem onlyN_out:¬LetsOut (onlyN Q):=by rintro ⟨_,_,h⟩;exact h
theorem zdv {id n:Nat} (ro:Option Nat) {a:Act} {w:World} (hm:P.follows .mixedOrders=true) (hd:zeo ops=true) (h:wpAny P .any ops (onlyN Q) ops.size (Array.replicate ops.size false) a w.drew):(Code.region id ops true).wpIn (FW ro) n P Q a w :=
 wpIn_mono (Q:=onlyN Q) (wpIn_region_draw fun t=>by
  simp only [Region.schedule,hm,Bool.true_or,if_true]
  exact zbf ro n hd onlyN_out _ _ _ (wpAny_sound ops.size t _ a _ h)) (fun e a w h=>by
   cases e with
   | normal=>exact h
   | _=>exact h.elim)
end
structure QS (P:Program) (ops:Array Oper) (C:World→Prop) (Q:Act→Prop) (l:List Oper) (a:Act):Prop where
 out:wpQuiet P ops C Q l a
section
variable {P:Program} {ops:Array Oper} {C:World→Prop} {Q:Act→Prop} {o:Oper} {rest:List Oper} {a:Act}
theorem zab {v:Value} (hw:Region.wanted o (yielded ops a.tmps)=true) (hr:∀ w,C w→(execOp a.eval o).run P w=.ok (.value v) w) (hk:QS P ops C Q rest (a.put o.dst v)):QS P ops C Q (o::rest) a:=⟨zag hw (zai hr hk.out)⟩
theorem zg0 {v:Value} {f:FuncId} {args:Array Value} (hw:Region.wanted o (yielded ops a.tmps)=true) (hr:∀ w,C w→(execOp a.eval o).run P w=.ok (.enter f args) w) (hc:∀ w,C w→Calls P f args w fun e w'=>e=.returned v∧C w') (hk:QS P ops C Q rest (a.put o.dst v)):QS P ops C Q (o::rest) a:=⟨zag hw (zcd hr hc hk.out)⟩
theorem zap (hw:Region.wanted o (yielded ops a.tmps)=false) (hk:QS P ops C Q rest (a.put o.dst undef)):QS P ops C Q (o::rest) a:=⟨za3 hw hk.out⟩
theorem zb2 (h:Q a):QS P ops C Q [] a:=⟨wpQuiet_nil h⟩
end
theorem zb6 {P:Program} {id n L:Nat} {Q:Exit→Act→World→Prop} {a:Act} {w:World} {l:List Oper} (C:World→Prop) (hm:P.follows .mixedOrders=true) (hd:zeo l.toArray=true) (hB:Region.lexB .any l.toArray=true) (hC:C w.drew)
 (h:QS P l.toArray C (fun a'=>∀ w',C w'→Q .normal a' w') l a):(Code.region id l.toArray true).wpIn (Fence.wide.inRound L) n P Q a w:=by
 show (Code.region id l.toArray true).wpIn (FW (some L)) n P Q a w
 refine zdv (some L) hm hd ?_
 simp only [Region.lexB,Bool.and_eq_true] at hB
 refine wpAny_of_quiet (C:=C) (Q:=fun a'=>∀ w',C w'→Q .normal a' w') (fun a' w' hw' h=>show onlyN Q .normal a' w' from h w' hw') _ _ _ _ hC ?_
 have:=wpAnyQ_lex (P:=P) (C:=C) (md:=.any) hB.1 l 0 (Array.replicate l.length false) a (by simp) (by simpa using hB.2) (by simpa using h.out)
 simpa using this
theorem zbi {P:Program} {id n:Nat} {Q:Exit→Act→World→Prop} {a:Act} {w:World} {l:List Oper} (C:World→Prop) (hm:P.follows .mixedOrders=true) (hd:zeo l.toArray=true) (hB:Region.lexB .any l.toArray=true) (hC:C w.drew)
 (h:QS P l.toArray C (fun a'=>∀ w',C w'→Q .normal a' w') l a):(Code.region id l.toArray true).wpIn Fence.wide n P Q a w:=by
 show (Code.region id l.toArray true).wpIn (FW none) n P Q a w
 refine zdv none hm hd ?_
 simp only [Region.lexB,Bool.and_eq_true] at hB
 refine wpAny_of_quiet (C:=C) (Q:=fun a'=>∀ w',C w'→Q .normal a' w') (fun a' w' hw' h=>show onlyN Q .normal a' w' from h w' hw') _ _ _ _ hC ?_
 have:=wpAnyQ_lex (P:=P) (C:=C) (md:=.any) hB.1 l 0 (Array.replicate l.length false) a (by simp) (by simpa using hB.2) (by simpa using h.out)
 simpa using this
theorem zb4 {P:Program} {id:Nat} {Q:Exit→Act→World→Prop} {a:Act} {w:World} {l:List Oper} (C:World→Prop) (hm:P.follows .mixedOrders=true) (hB:Region.lexB .any l.toArray=true) (hC:C w.drew)
 (h:QS P l.toArray C (fun a'=>∀ w',C w'→Q .normal a' w') l a):(Code.region id l.toArray true).wp P Q a w:=zbh C hm hB hC h.out
theorem wpIn_round_X {P:Program} {ops:Array Oper} {id n R:Nat} {Q:Exit→Act→World→Prop} {a:Act} {w:World} (S:World→Prop) (L:Nat) (hm:P.follows .mixedOrders=true) (hd:zeo ops=true) (hS:S w.drew)
 (h:S w.drew→zb5 P .any ops (onlyN Q) S L ops.size (Array.replicate ops.size false) a w.drew):(Code.region id ops true).wpIn (Fence.wide.inRound R) n P Q a w:=by
 show (Code.region id ops true).wpIn (FW (some R)) n P Q a w
 exact zdv (some R) hm hd (zf6 _ _ _ _ (h hS))
theorem zan {w:World} {B:Nat} {e:TypeId} {s n:Nat} {v:Value} {xs:List Value} (h:w.ownsRow B e s v n xs) {g:Nat} {t':TypeId} {cur:Array Value} {fr:Nat×Nat} (hg:w.heap[g]? = some (.cells cur t' fr)) (ht:t'≠e) (j:Nat) (u:Value):(w.setCell ⟨g,j,none⟩ u).ownsRow B e s v n xs:=by
 refine ⟨h.1,?_⟩
 rcases h.2 with h'|⟨g',c,cur',e1,hB,hh,r⟩
 · exact .inl h'
 · refine .inr ⟨g',c,cur',e1,hB,(Below.heap_setCell w ⟨g,j,none⟩ u g' (fun e'=>?_)).trans hh,r⟩
   subst e'
   rw [hg] at hh
   injection hh with e2
   injection e2 with _ e3 _
   exact ht e3
theorem zas {w:World} {B:Nat} {e:TypeId} {s n:Nat} {v:Value} {xs:List Value} (h:w.ownsRow B e s v n xs) (g j:Nat) (u:Value) (hg:g<B):(w.setCell ⟨g,j,none⟩ u).ownsRow B e s v n xs:=by
 refine ⟨h.1,?_⟩
 rcases h.2 with h'|⟨g',c,cur',e1,hB,hh,r⟩
 · exact .inl h'
 · exact .inr ⟨g',c,cur',e1,hB,(Below.heap_setCell w ⟨g,j,none⟩ u g' (by simp only;omega)).trans hh,r⟩
theorem RowE.later {w w':World} {B:Nat} {va:Option Addr} {L vc:Nat} {es:List En} (h:RowE w B va L vc es) (hb:Below w.heap.size w w'):RowE w' B va L vc es:=h.below hb (Nat.le_refl _)
theorem RowT.later {w w':World} {B:Nat} {va:Option Addr} {L vc:Nat} {l:List Tm} (h:RowT w B va L vc l) (hb:Below w.heap.size w w'):RowT w' B va L vc l:=h.below hb (Nat.le_refl _)
theorem RowE.obj {w:World} {B g L vc:Nat} {es:List En} (h:RowE w B (some ⟨g,0,none⟩) L vc es):∃ cur,w.heap[g]? = some (.cells cur 74 (0,0)):=by
 rcases h.at with e|⟨g',e,_,_,hc⟩
 · cases e
 · cases e;exact hc
theorem RowE.ge {w:World} {B g L vc:Nat} {es:List En} (h:RowE w B (some ⟨g,0,none⟩) L vc es):B≤g∧g<w.heap.size:=by
 rcases h.at with e|⟨g',e,hB,hl,_⟩
 · cases e
 · cases e;exact ⟨hB,hl⟩
theorem RowE.cellE {w:World} {B g L vc:Nat} {es:List En} (h:RowE w B (some ⟨g,0,none⟩) L vc es) (j:Nat) (x:En) (hj:es[j]? = some x):w.cell? ⟨g,j*2,none⟩=some (.int .i64 x.f)∧w.cell? ⟨g,j*2+1,none⟩=some (.slice x.a x.bs.length x.c):=by
 have hL:=h.len
 have hl:=(List.getElem?_eq_some_iff.1 hj).1
 have hat:=zeh es j x hj
 exact ⟨by rw [World.ownsRow.cellAt h (j*2) (by omega)];exact hat.1,by rw [World.ownsRow.cellAt h (j*2+1) (by omega)];exact hat.2⟩
theorem RowE.frozen {w:World} {B g L vc:Nat} {es:List En} (h:RowE w B (some ⟨g,0,none⟩) L vc es) (j:Nat):w.frozen? ⟨g,j,none⟩=false:=World.ownsRow.frozenAt h j
theorem RowE.set {w:World} {B g L vc:Nat} {es:List En} (h:RowE w B (some ⟨g,0,none⟩) L vc es) (j:Nat) (x y:En) (hj:es[j]? = some x) (hf:y.f=x.f):RowE (w.setCell ⟨g,j*2+1,none⟩ (.slice y.a y.bs.length y.c)) B (some ⟨g,0,none⟩) L vc (es.set j y):=by
 have h1:=(World.ownsRow.stored h (j*2+1) (.slice y.a y.bs.length y.c)).1
 unfold RowE
 rw [zgj es j x y hj hf]
 exact h1
structure En.mine (w:World) (B:Nat) (x:En):Prop where
 row:Row w B x.a x.bs.length x.c x.bs
 byt:Byts x.bs
 len:x.bs.length≤140737488351232
 f:I64 x.f
theorem En.mine.later {w w':World} {B:Nat} {x:En} (h:x.mine w B) (hb:Below w.heap.size w w'):x.mine w' B:={ h with row:=h.row.later hb}
theorem En.mine.ok {w:World} {B:Nat} {x:En} (h:x.mine w B):x.ok w:=⟨h.row.sl h.byt h.len,h.f⟩
theorem En.mine.beside {w:World} {B:Nat} {x:En} (h:x.mine w B) {g:Nat} {t':TypeId} {cur:Array Value} {fr:Nat×Nat} (hg:w.heap[g]? = some (.cells cur t' fr)) (ht:t'≠5) (j:Nat) (u:Value):x.mine (w.setCell ⟨g,j,none⟩ u) B:={ h with row:=zan h.row hg ht j u}
theorem En.mine.mono {w:World} {B B':Nat} {x:En} (h:x.mine w B) (hb:B'≤B):x.mine w B':={ h with row:=h.row.mono hb}
def zf0 (es:List En):Prop:=es.Pairwise fun x y=>y.a=none∨x.a≠y.a
structure Fam (w:World) (B:Nat) (es:List En):Prop where
 mine:∀ x∈es,x.mine w B
 part:zf0 es
theorem Fam.later {w w':World} {B:Nat} {es:List En} (h:Fam w B es) (hb:Below w.heap.size w w'):Fam w' B es:=⟨fun x hx=>(h.mine x hx).later hb,h.part⟩
theorem Fam.beside {w:World} {B:Nat} {es:List En} (h:Fam w B es) {g:Nat} {t':TypeId} {cur:Array Value} {fr:Nat×Nat} (hg:w.heap[g]? = some (.cells cur t' fr)) (ht:t'≠5) (j:Nat) (u:Value):Fam (w.setCell ⟨g,j,none⟩ u) B es:=⟨fun x hx=>(h.mine x hx).beside hg ht j u,h.part⟩
theorem Fam.nil (w:World) (B:Nat):Fam w B []:=⟨fun x hx=>(by cases hx),List.Pairwise.nil⟩
theorem Fam.of_heap {w w':World} {B:Nat} {es:List En} (h:Fam w B es) (e:w'.heap=w.heap):Fam w' B es:=⟨fun x hx=>{ h.mine x hx with row:=(h.mine x hx).row.of_heap e},h.part⟩
theorem Fam.snoc {w w':World} {B:Nat} {es:List En} {x:En} (h:Fam w B es) (hb:Below w.heap.size w w') (hB:B≤w.heap.size) (hx:x.mine w' w.heap.size):Fam w' B (es++[x]):=by
 refine ⟨fun y hy=>?_,?_⟩
 · rcases List.mem_append.1 hy with hy|hy
   · exact (h.mine y hy).later hb
   · simp at hy;subst hy;exact hx.mono hB
 · unfold zf0
   rw [List.pairwise_append]
   refine ⟨h.part,by simp,fun y hy z hz=>?_⟩
   simp at hz;subst hz
   rcases hx.row.at with e|⟨g,e,hg,_⟩
   · exact .inl e
   · right
     rcases (h.mine y hy).row.at with e'|⟨g',e',_,hlt,_⟩
     · rw [e,e'];simp
     · rw [e,e']
       intro h'
       cases h'
       omega
theorem Fam.pcs {w:World} {B:Nat} {es:List En} (h:Fam w B es) {va:Option Addr} {vc:Nat} (hR:RowE w B va es.length vc es) (hr:es.length*32≤140737488351232):PcsAt w va vc es :=
 ⟨hr,hR.max.1,hR.max.2,hR.nil0,hR.ents,fun x hx=>(h.mine x hx).ok⟩
theorem nil_eqlB (a:Option Addr) (n c:Nat) (w:World):(binOp .eql 22 (.slice a n c) (.slice none 0 0)).run Try.prog w=.ok (.bool a.isNone) w:=by
 cases a<;>kernel_rfl
theorem nil_eqlP (a:Option Addr) (n c:Nat) (w:World):(binOp .eql 23 (.slice a n c) (.slice none 0 0)).run Try.prog w=.ok (.bool a.isNone) w:=by
 cases a<;>kernel_rfl
set_option maxRecDepth 100000 in
theorem zcl (a:Option Addr) (c:Nat) (xs:List Int) (w:World) (h:SlAt w a c xs) :
 Calls Try.prog 31 #[.slice a xs.length c] w fun e w'=>∃ va vc,e=.returned (.slice va xs.length vc)∧Row w' w.heap.size va xs.length vc xs∧Below w.heap.size w w':=by
 have hn:=nil_eqlB
 cases a with
 | none =>
  obtain rfl:=h.1.nil0
  have h0:=h.2.1 rfl
  subst h0
  clear h
  go_enter Try.func31,Try.ntmps31
  go_wp2
  go_ret
  exact ⟨none,0,rfl,World.ownsRow_nil _ _ _ _,Below.refl _ _⟩
 | some x =>
  have hl:=h.1.1
  obtain ⟨va,vc,w',hr,hR,hB,_⟩:=zhj (w.alloc (.cells #[] 5)) w.heap.size _ 0 0 [] (some x) xs.length c xs 22 (zc6 w _ (Nat.le_refl _)) (h.1.alloc _) rfl (fun h=>by cases h) (by omega) (by simp)
  have HF:Hid (Row w' w.heap.size va xs.length vc xs∧Below w.heap.size w w'):=⟨by simpa using hR,((Below.refl _ w).alloc (Nat.le_refl _) _).trans hB⟩
  rw [Nat.zero_add] at hr
  have A3:Hid (_=_):=hr
  clear h hR hB hr
  go_enter Try.func31,Try.ntmps31
  go_wp2_with (at_builtin;refine Lib.wpList_append_run (w.alloc (.cells #[] 5)) rfl (.tmp 5) (.tmp 6) 22 22 rfl (.slice (some ⟨w.heap.size,0,none⟩) 0 0) (.slice (some x) xs.length c) rfl rfl (.slice va xs.length vc) w' A3.out ?_)
  go_ret
  exact ⟨va,vc,rfl,HF.out.1,HF.out.2⟩
set_option maxRecDepth 100000 in
theorem cloneP_any (a:Option Addr) (c:Nat) (es:List En) (w:World) (h:PcsAt w a c es) :
 Calls Try.prog 57 #[.slice a es.length c] w fun e w'=>∃ va vc,e=.returned (.slice va es.length vc)∧RowE w' w.heap.size va es.length vc es∧Below w.heap.size w w':=by
 have hn:=nil_eqlP
 cases a with
 | none =>
  have h0:=h.nil rfl
  have hl:=h.cap
  obtain rfl:es=[]:=List.eq_nil_of_length_eq_zero (by omega)
  subst h0
  clear h
  go_enter Try.func57,Try.ntmps57
  go_wp2
  go_ret
  exact ⟨none,0,rfl,RowE.nil _ _,Below.refl _ _⟩
 | some x =>
  have hl:=h.reach
  obtain ⟨va,vc,w',hr,hR,hg,hB⟩:=zdp (w.alloc (.cells #[] 74)) w.heap.size _ 0 0 [] (rowE_empty w _ (Nat.le_refl _)) (by simp) (some x) es.length c es 23 (h.ents.alloc _) rfl (fun h=>by cases h) (by omega)
  have HF:Hid (RowE w' w.heap.size va es.length vc es∧Below w.heap.size w w'):=⟨by simpa using hR,((Below.refl _ w).alloc (Nat.le_refl _) _).trans hB⟩
  rw [Nat.zero_add] at hr
  have A3:Hid (_=_):=hr
  clear h hR hB hr hg
  go_enter Try.func57,Try.ntmps57
  go_wp2_with (at_builtin;refine Lib.wpList_append_run (w.alloc (.cells #[] 74)) rfl (.tmp 5) (.tmp 6) 23 23 rfl (.slice (some ⟨w.heap.size,0,none⟩) 0 0) (.slice (some x) es.length c) rfl rfl (.slice va es.length vc) w' A3.out ?_)
  go_ret
  exact ⟨va,vc,rfl,HF.out.1,HF.out.2⟩
def spW (x:En):Tm:=(x.f,wrap64 (x.f+(x.bs.length:Int)))
def spnsW (es:List En):List Tm:=es.map spW
def RowTo (w0 wr:World) (es:List En) (n i:Nat) (ts:List Tm):Prop :=
 RowT wr w0.heap.size (some ⟨w0.heap.size,0,none⟩) n n ts∧ts.take i=(spnsW es).take i∧Below w0.heap.size w0 wr
theorem made_tcells (n:Nat):(madeCells (Value.agg #[.int .i64 0,.int .i64 0]).cells (n*2)).toList=za8 (List.replicate n (0,0)):=by
 apply List.ext_getElem?
 intro j
 rcases Nat.lt_or_ge j (n*2) with h|h
 · have hat:=zc1 (List.replicate n (0,0)) (j / 2) (by simp;omega)
   rcases Nat.mod_two_eq_zero_or_one j with h0|h0
   · have ej:j / 2*2=j:=by omega
     rw [ej] at hat
     rw [hat.1]
     simp [madeCells,h,h0,Value.cells,show j / 2<n by omega]
   · have ej:j / 2*2+1=j:=by omega
     rw [ej] at hat
     rw [hat.2]
     simp [madeCells,h,h0,Value.cells,show j / 2<n by omega]
 · rw [List.getElem?_eq_none (by simp [size_madeCells];omega),List.getElem?_eq_none (by rw [zb9];simpa using h)]
theorem zf7:∀ (l:List Tm) (j:Nat) (x:Tm),za8 (l.set j x)=((za8 l).set (j*2) (.int .i64 x.1)).set (j*2+1) (.int .i64 x.2)
 | [],j,x=>by simp [za8]
 | a::r,0,x=>by simp [za8]
 | a::r,j+1,x=>by
  have h1:∀ (a:Tm) (r:List Tm),za8 (a::r)=Value.int .i64 a.1::Value.int .i64 a.2::za8 r:=fun _ _=>rfl
  rw [List.set_cons_succ,h1,h1,zf7 r j x,show (j+1)*2=j*2+1+1 from by omega]
  simp
theorem RowT.put {w:World} {B g L vc:Nat} {l:List Tm} (h:RowT w B (some ⟨g,0,none⟩) L vc l) (j:Nat) (x:Tm):RowT ((w.setCell ⟨g,j*2,none⟩ (.int .i64 x.1)).setCell ⟨g,j*2+1,none⟩ (.int .i64 x.2)) B (some ⟨g,0,none⟩) L vc (l.set j x):=by
 have h1:=(World.ownsRow.stored h (j*2) (.int .i64 x.1)).1
 have h2:=(World.ownsRow.stored h1 (j*2+1) (.int .i64 x.2)).1
 unfold RowT
 rw [zf7]
 exact h2
theorem RowT.cells2 {w:World} {B g L vc:Nat} {l:List Tm} (h:RowT w B (some ⟨g,0,none⟩) L vc l) (j:Nat) (hj:j<L):(∃ u,w.cell? ⟨g,j*2,none⟩=some u)∧(∃ u,w.cell? ⟨g,j*2+1,none⟩=some u):=by
 have hL:=h.len
 have hat:=zc1 l j (by omega)
 exact ⟨⟨_,by rw [World.ownsRow.cellAt h (j*2) (by omega)];exact hat.1⟩,⟨_,by rw [World.ownsRow.cellAt h (j*2+1) (by omega)];exact hat.2⟩⟩
theorem RowT.frozenAt {w:World} {B g L vc:Nat} {l:List Tm} (h:RowT w B (some ⟨g,0,none⟩) L vc l) (j:Nat):w.frozen? ⟨g,j,none⟩=false:=World.ownsRow.frozenAt h j
set_option maxRecDepth 100000 in
set_option maxHeartbeats 4000000 in
theorem rowOf_any (A:Option Addr) (c:Nat) (es:List En) (w:World) (hP:PcsAt w A c es) :
 Calls Try.prog 51 #[.slice A es.length c] w fun e w'=>∃ va vc,e=.returned (.slice va es.length vc)∧RowT w' w.heap.size va es.length vc (spnsW es)∧Below w.heap.size w w':=by
 obtain ⟨i0,hi,hz0,hz1,hz2⟩:=info_parts Try.info78
 have hr:=hP.reach
 have HD:Hid (PcsAt w A c es):=hP
 obtain ⟨n,hn⟩:∃ n,es.length=n:=⟨_,rfl⟩
 have HN:Hid (es.length=n):=hn
 rw [hn] at hr ⊢
 have hmk:=fun W:World=>run_make (P:=Try.prog) W 25 78 i0 _ Try.underlying25 hi hz0 .i64 .i64 (n:Int) (n:Int) (by omega) (Int.le_refl _) (by rw [hz2];omega) (by omega)
 simp only [Int.toNat_natCast,hz1] at hmk
 obtain ⟨cs,hcs⟩:∃ cs,madeCells (Value.agg #[.int .i64 0,.int .i64 0]).cells (n*2)=cs:=⟨_,rfl⟩
 simp only [hcs] at hmk
 have hst:RowTo w (w.alloc (.cells cs 78)) es n 0 (List.replicate n (0,0)):=by
  refine ⟨⟨by rw [zb9];simp,.inr ⟨_,n,cs,rfl,Nat.le_refl _,heap_alloc_new w _,Nat.le_refl _,by unfold maxLen;omega,by rw [← hcs,size_madeCells],?_⟩⟩,by simp,zaa (Below.refl _ _) _⟩
  rw [← made_tcells,hcs]
  apply List.take_of_length_le
  rw [Array.length_toList,← hcs,size_madeCells]
  exact Nat.le_refl _
 have HST:Hid (RowTo w (w.alloc (.cells cs 78)) es n 0 (List.replicate n (0,0))):=hst
 clear hP hst hcs hz0 hz1 hz2 hi hn
 go_enter Try.func51,Try.ntmps51
 go_wp2_with fail
 go_loopw [11] (fun vi wr=>∃ (i:Nat) (ts:List Tm),vi=.int .i64 i∧i≤n∧Hid (RowTo w wr es n i ts))
  (fun vi _=>n-(intOf vi).toNat)
 case atStart=>exact ⟨0,_,rfl,Nat.zero_le _,HST.out⟩
 case round =>
  obtain ⟨i,ts,rfl,hin,HL⟩:=hrel
  by_cases hlt:i<n
  · obtain ⟨b,o,x,rfl,hx,hok,hc0,hc1⟩:=(HD.out.later HL.out.2.2).get i (by rw [HN.out];exact hlt)
    obtain ⟨t,ht⟩:∃ t,wrap64 (x.f+(x.bs.length:Int))=t:=⟨_,rfl⟩
    have HX:Hid (es[i]? = some x∧spW x=(x.f,t)):=⟨hx,by unfold spW;rw [ht]⟩
    have hb':Below wr.heap.size wr (wr.alloc (.cells #[.int .i64 x.f,.slice x.a x.bs.length x.c] 74)):=zaa (Below.refl _ _) _
    have HB:Hid (Below wr.heap.size wr (wr.alloc (.cells #[.int .i64 x.f,.slice x.a x.bs.length x.c] 74))):=hb'
    have cS:=fun W=>zbu x.f x.a x.bs.length x.c W t ht
    clear hx hok hb' ht
    go_wp2_with fail
    refine (cS _).mono ?_
    rintro e w1 ⟨rfl,hb⟩
    have hb1:Below wr.heap.size wr w1:=HB.out.trans (hb.mono (by simp))
    have hE1:=HL.out.1.below hb1 (Nat.le_refl _)
    obtain ⟨⟨u,hu⟩,v,hv⟩:=hE1.cells2 i hlt
    have f0:=hE1.frozenAt (i*2)
    have f1:=hE1.frozenAt (i*2+1)
    have HR:Hid (Below wr.heap.size wr w1∧RowT w1 w.heap.size (some ⟨w.heap.size,0,none⟩) n n ts):=⟨hb1,hE1⟩
    clear hb hb1 hE1
    go_wp2_with fail
    go_roundw
    case rel =>
     refine ⟨i+1,ts.set i (x.f,t),by go_num,by omega,?_⟩
     have hfl:ts.length=n:=HL.out.1.len
     have hel:=HN.out
     refine ⟨HR.out.2.put i (x.f,t),?_,?_⟩
     · have h1:(ts.set i (x.f,t)).take (i+1)=ts.take i++[(x.f,t)]:=by
        rw [List.take_add_one]
        simp [hfl,hlt]
        rw [List.take_set]
        apply List.set_eq_of_length_le
        simp
        omega
       rw [h1,HL.out.2.1,List.take_add_one (l:=spnsW es)]
       have:(spnsW es)[i]? = some (x.f,t):=by unfold spnsW;rw [List.getElem?_map,HX.out.1];exact congrArg some HX.out.2
       rw [this];rfl
     · exact ((HL.out.2.2.trans (HR.out.1.mono HL.out.2.2.size)).setCell (Nat.le_refl _) _).setCell (Nat.le_refl _) _
    case measure=>simp [intOf];omega
  · obtain rfl:i=n:=by omega
    go_wp2_with fail
    go_ret
    have hfl:ts.length=i:=HL.out.1.len
    have hall:ts=spnsW es:=by
     have h1:=HL.out.2.1
     rw [List.take_of_length_le (by omega),List.take_of_length_le (by unfold spnsW;rw [List.length_map,HN.out];exact Nat.le_refl _)] at h1
     exact h1
    exact ⟨_,_,rfl,by rw [← hall];exact HL.out.1,HL.out.2.2⟩
def hix:List Pl.Pc→Int→Nat
 | [],_=>0
 | p::r,x=>if Pl.pend p≤x then hix r x+1 else 0
def hfd (l:List Pl.Pc) (x:Int):Bool:=match l[hix l x]? with|none=>false|some p=>decide (p.1≤x)
theorem hix_le:∀ (l:List Pl.Pc) (x:Int),hix l x≤l.length
 | [],_=>Nat.le_refl _
 | p::r,x=>by
  unfold hix
  split
  · have:=hix_le r x;simp;omega
  · simp
theorem hix_low:∀ {l:List Pl.Pc} {lo x:Int},Pl.latB lo l→x≤lo→hix l x=0
 | [],_,_,_,_=>rfl
 | p::r,lo,x,h,hx=>by
  have:=Pl.pend_lt h.2.1
  have:=h.1
  unfold hix
  rw [if_neg (by omega)]
theorem zet:∀ {l:List Pl.Pc} {lo x:Int} {j:Nat} {p:Pl.Pc},Pl.latB lo l→l[j]? = some p→(Pl.pend p≤x↔j<hix l x)
 | [],_,_,_,_,_,h=>by simp at h
 | q::r,lo,x,0,p,h,hp=>by
  simp at hp;subst hp
  unfold hix
  split<;>simp_all
 | q::r,lo,x,j+1,p,h,hp=>by
  have ih:=zet (x:=x) h.2.2 (show r[j]? = some p by simpa using hp)
  unfold hix
  by_cases hq:Pl.pend q≤x
  · rw [if_pos hq];omega
  · rw [if_neg hq]
    have:=hix_low h.2.2 (show x≤Pl.pend q by omega)
    omega
def Fits (l:List Pl.Pc):Prop:=∃ lo,0≤lo∧Pl.latB lo l∧∀ p∈l,Pl.pend p≤562949953421312
theorem zbd:∀ {l:List Pl.Pc} {lo:Int},Pl.latB lo l→∀ p∈l,lo<p.1∧p.1<Pl.pend p
 | [],_,_,p,hp=>by cases hp
 | q::r,lo,h,p,hp=>by
  have k:=Pl.pend_lt h.2.1
  have:=h.1
  rcases List.mem_cons.1 hp with rfl|hp
  · exact ⟨by omega,k⟩
  · have:=zbd h.2.2 p hp
    exact ⟨by omega,this.2⟩
theorem Fits.bd {l:List Pl.Pc} (h:Fits l) {p:Pl.Pc} (hp:p∈l):0<p.1∧p.1<Pl.pend p∧Pl.pend p≤562949953421312:=by
 obtain ⟨lo,h0,h1,h2⟩:=h
 have:=zbd h1 p hp
 have:=h2 p hp
 omega
theorem zdx {x:En} (h:0<x.f∧x.f<Pl.pend x.pc∧Pl.pend x.pc≤562949953421312):wrap64 (x.f+(x.bs.length:Int))=Pl.pend x.pc:=by
 have e:Pl.pend x.pc=x.f+(x.bs.length:Int):=rfl
 rw [← e]
 exact zbg (by omega) (by omega)
def cmpI (f t x:Int):Int:=if t≤x then -1 else if x<f then 1 else 0
set_option maxRecDepth 100000 in
set_option maxHeartbeats 4000000 in
theorem cmp_walk (f:Int) (a:Option Addr) (n c:Nat) (x:Int) (w:World) (t:Int) (ht:wrap64 (f+(n:Int))=t) :
 Calls Try.prog 74 #[.agg #[.int .i64 f,.slice a n c],.int .i64 x] w fun e w'=>e=.returned (.int .i64 (cmpI f t x))∧Below w.heap.size w w':=by
 have cS:=fun W=>zbu f a n c W t ht
 have hb0:Below w.heap.size w (w.alloc (.cells #[.int .i64 f,.slice a n c] 74)):=zaa (Below.refl _ _) _
 have HB:Hid (Below w.heap.size w (w.alloc (.cells #[.int .i64 f,.slice a n c] 74))):=hb0
 clear ht hb0
 go_enter Try.func74,Try.ntmps74
 go_wp2_with fail
 refine (cS _).mono ?_
 rintro e w1 ⟨rfl,hb⟩
 have HB1:Hid (Below w.heap.size w w1):=Below.on HB.out hb
 clear hb
 go_wp2_with fail
 all_goals go_ret
 all_goals (refine ⟨za9 ?_,zaa HB1.out _⟩;unfold cmpI;first|(rw [if_pos (by omega)])|(rw [if_neg (by omega),if_pos (by omega)])|(rw [if_neg (by omega),if_neg (by omega)]))
set_option maxRecDepth 100000 in
set_option maxHeartbeats 4000000 in
theorem search_any (A:Option Addr) (c:Nat) (es:List En) (x:Int) (w:World) (hP:PcsAt w A c es) (hF:Fits (es.map En.pc)) :
 Calls Try.prog 73 #[.slice A es.length c,.int .i64 x,.func (.func 74) #[] #[]] w fun e w'=>e=.returned (.tuple #[.int .i64 (hix (es.map En.pc) x),.bool (hfd (es.map En.pc) x)])∧Below w.heap.size w w':=by
 have hr:=hP.reach
 have HD:Hid (PcsAt w A c es):=hP
 have HF:Hid (Fits (es.map En.pc)):=hF
 obtain ⟨lo,_,hlat,_⟩:=hF
 have HL:Hid (Pl.latB lo (es.map En.pc)):=hlat
 have hle:=hix_le (es.map En.pc) x
 rw [List.length_map] at hle
 obtain ⟨n,hn⟩:∃ n,es.length=n:=⟨_,rfl⟩
 have HN:Hid (es.length=n):=hn
 obtain ⟨X,hX⟩:∃ X,hix (es.map En.pc) x=X:=⟨_,rfl⟩
 have HX:Hid (hix (es.map En.pc) x=X):=hX
 rw [hX,hn] at hle
 rw [hn] at hr
 rw [hX,hn]
 have cC:=fun (y:En) W (t:Int) ht=>cmp_walk y.f y.a y.bs.length y.c x W t ht
 clear hP hlat hn hX
 go_enter Try.func73,Try.ntmps73
 go_wp2_with fail
 go_loopw [9,10] (fun vi vj wr=>∃ (i j:Nat),vi=.int .i64 i∧vj=.int .i64 j∧i≤X∧X≤j∧j≤n∧Hid (Below w.heap.size w wr))
  (fun vi vj _=>(intOf vj).toNat-(intOf vi).toNat)
 case atStart=>exact ⟨0,n,rfl,rfl,Nat.zero_le _,hle,Nat.le_refl _,Below.refl _ _⟩
 case round =>
  obtain ⟨i,j,rfl,rfl,h1,h2,h3,HB⟩:=hrel
  by_cases hlt:i<j
  · obtain ⟨m,hm⟩:∃ m,(i+j) / 2=m:=⟨_,rfl⟩
    have hm1:i≤m∧m<j:=by omega
    have hme:((i:Int)+(j:Int)) / 2=(m:Int):=by omega
    obtain ⟨b,o,y,rfl,hy,hok,hc0,hc1⟩:=(HD.out.later HB.out).get m (by rw [HN.out];omega)
    have hmem:y.pc∈es.map En.pc:=List.mem_map.2 ⟨y,List.mem_of_getElem? hy,rfl⟩
    have hfit:=zdx (HF.out.bd hmem)
    have hiff:=zet (x:=x) HL.out (show (es.map En.pc)[m]? = some y.pc by rw [List.getElem?_map,hy];rfl)
    rw [HX.out] at hiff
    have c1:=fun W=>cC y W _ hfit
    obtain ⟨t,ht⟩:∃ t,Pl.pend y.pc=t:=⟨_,rfl⟩
    rw [ht] at hiff c1
    have hcm:(cmpI y.f t x<0)↔t≤x:=by unfold cmpI;split<;>(try split)<;>omega
    obtain ⟨cm,hcme⟩:∃ cm,cmpI y.f t x=cm:=⟨_,rfl⟩
    rw [hcme] at c1 hcm
    clear hok hmem hfit ht hy hm hcme
    by_cases hc:t≤x
    · have hneg:=hcm.2 hc
      have hXm:=hiff.1 hc
      clear hcm hiff hc
      go_wp2_with (go_at_call 74;refine (c1 _).mono ?_;rintro e w1 ⟨rfl,hb⟩)
      go_roundw
      case rel=>exact ⟨m+1,j,by go_num,rfl,by omega,by omega,by omega,Below.on HB.out hb⟩
      case measure=>simp [intOf];omega
    · have hneg:¬cm<0:=fun h=>hc (hcm.1 h)
      have hXm:¬m<X:=fun h=>hc (hiff.2 h)
      clear hcm hiff hc
      go_wp2_with (go_at_call 74;refine (c1 _).mono ?_;rintro e w1 ⟨rfl,hb⟩)
      go_roundw
      case rel=>exact ⟨i,m,rfl,rfl,by omega,by omega,by omega,Below.on HB.out hb⟩
      case measure=>simp [intOf];omega
  · obtain rfl:i=X:=by omega
    by_cases hin:i<n
    · obtain ⟨b,o,y,rfl,hy,hok,hc0,hc1⟩:=(HD.out.later HB.out).get i (by rw [HN.out];exact hin)
      have hmem:y.pc∈es.map En.pc:=List.mem_map.2 ⟨y,List.mem_of_getElem? hy,rfl⟩
      have hfit:=zdx (HF.out.bd hmem)
      have hget:(es.map En.pc)[i]? = some y.pc:=by rw [List.getElem?_map,hy];rfl
      have hiff:=zet (x:=x) HL.out hget
      rw [HX.out] at hiff
      have c1:=fun W=>cC y W _ hfit
      have hres:hfd (es.map En.pc) x=(cmpI y.f (Pl.pend y.pc) x==0):=by
       unfold hfd
       rw [HX.out,hget]
       show decide (y.f≤x)=_
       unfold cmpI
       rw [if_neg (fun h=>by have:=hiff.1 h;omega)]
       by_cases hz:x<y.f
       · rw [if_pos hz];simp;omega
       · rw [if_neg hz];simp;omega
      obtain ⟨cm,hcme⟩:∃ cm,cmpI y.f (Pl.pend y.pc) x=cm:=⟨_,rfl⟩
      rw [hcme] at c1 hres
      have HR:Hid (hfd (es.map En.pc) x=(cm==0)):=hres
      clear hok hmem hfit hy hget hiff hres hcme h1 h2
      go_wp2_with (go_at_call 74;refine (c1 _).mono ?_;rintro e w1 ⟨rfl,hb⟩)
      go_ret2
      exact ⟨by rw [HR.out];rfl,Below.on HB.out hb⟩
    · have hres:hfd (es.map En.pc) x=false:=by
       unfold hfd
       rw [HX.out,List.getElem?_eq_none (by rw [List.length_map,HN.out];omega)]
      have HR:Hid (hfd (es.map En.pc) x=false):=hres
      clear hres
      go_wp2_with fail
      go_ret2
      exact ⟨by rw [HR.out];rfl,HB.out⟩
set_option maxRecDepth 100000 in
set_option maxHeartbeats 4000000 in
theorem zes (A:Option Addr) (c:Nat) (es:List En) (x:Int) (w:World) (hP:PcsAt w A c es) (hF:Fits (es.map En.pc)) :
 Calls Try.prog 54 #[.slice A es.length c,.int .i64 x] w fun e w'=>e=.returned (.tuple #[.int .i64 (hix (es.map En.pc) x),.bool (hfd (es.map En.pc) x)])∧Below w.heap.size w w':=by
 have c1:=search_any A c es x w hP hF
 obtain ⟨X,hX⟩:∃ X,hix (es.map En.pc) x=X:=⟨_,rfl⟩
 obtain ⟨b,hb⟩:∃ b,hfd (es.map En.pc) x=b:=⟨_,rfl⟩
 rw [hX,hb] at c1 ⊢
 clear hX hb hP hF
 go_enter Try.func54,Try.ntmps54
 go_wp2_with (go_at_call 73;refine c1.mono ?_;rintro e w1 ⟨rfl,hB⟩)
 go_ret2
 exact ⟨rfl,hB⟩
end Go.Proofs.Ytkigcdmlkmcdcaa
