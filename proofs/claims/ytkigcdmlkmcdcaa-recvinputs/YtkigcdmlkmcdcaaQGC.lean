/- GC: SBase SIter SMiss SCheck. -/
import Derived.Test.YtkigcdmlkmcdcaaQZ
import Derived.Test.YtkigcdmlkmcdcaaRows
import Derived.Test.YtkigcdmlkmcdcaaQGA
import Derived.Test.YtkigcdmlkmcdcaaQGB
import Derived.Deep.AppendLies
import Derived.Laws.AppendOwnNone
import Derived.Laws.ResultCell
/- Spans in memory: a slice that came in, a box, a slice of one's own. -/
namespace Go.Proofs.Ytkigcdmlkmcdcaa
open Go.ChangeShapes Go.WideShapes Go.ChangeAt Go.RowKit Go.Shelf
set_option linter.unusedVariables false
theorem za9 {k:IntKind} {a b:Int} (h:a=b):Ending.returned (.int k a)=.returned (.int k b):=by rw [h]
theorem za1 {a b:Bool} (h:a=b):Ending.returned (.bool a)=.returned (.bool b):=by rw [h]
theorem zac {w:World} {p:Addr} {v:Value} (h:w.cell? p=some v):p.block<w.heap.size:=by
 unfold World.cell? at h
 by_cases hp:p.block<w.heap.size
 · exact hp
 · rw [Array.getElem?_eq_none (by omega)] at h
   simp at h
def za0 (w:World) (a:Option Addr) (l:List Tm):Prop :=
 l.length≤maxLen∧∀ j,j<l.length→∃ b o,a=some ⟨b,o,none⟩∧w.cell? ⟨b,o+j*2,none⟩=some (.int .i64 (l[j]?.getD (0,0)).1)∧w.cell? ⟨b,o+j*2+1,none⟩=some (.int .i64 (l[j]?.getD (0,0)).2)
theorem za0.below {w w':World} {a:Option Addr} {l:List Tm} (h:za0 w a l) {B:Nat} (hb:Below B w w') (hB:w.heap.size≤B):za0 w' a l:=by
 refine ⟨h.1,fun j hj=>?_⟩
 obtain ⟨b,o,e,hc,hd⟩:=h.2 j hj
 exact ⟨b,o,e,(hb.cell (p:=⟨b,o+j*2,none⟩) (by have:=zac hc;omega)).trans hc,(hb.cell (p:=⟨b,o+j*2+1,none⟩) (by have:=zac hd;omega)).trans hd⟩
theorem za0.nil (w:World) (a:Option Addr):za0 w a []:=⟨by simp,fun j hj=>by simp at hj⟩
theorem zc2 {l:List Tm} {k:Nat} {x:Tm} (h:k<l.length) (hx:l[k]?.getD (0,0)=x):l.take (k+1)=l.take k++[x]:=by
 subst hx
 rw [List.take_add_one];simp [h]
def BoxT (W:World) (B:Nat) (x:Tm):Prop:=W.heap[B]? = some (.cells #[.int .i64 x.1,.int .i64 x.2] 78 (0,0))
theorem BoxT.lt {W:World} {B:Nat} {x:Tm} (h:BoxT W B x):B<W.heap.size:=(Array.getElem?_eq_some_iff.1 h).1
theorem BoxT.cell0 {W:World} {B:Nat} {x:Tm} (h:BoxT W B x):W.cell? ⟨B,0,none⟩=some (.int .i64 x.1):=by simp [World.cell?,show W.heap[B]? = _ from h]
theorem BoxT.cell1 {W:World} {B:Nat} {x:Tm} (h:BoxT W B x):W.cell? ⟨B,1,none⟩=some (.int .i64 x.2):=by simp [World.cell?,show W.heap[B]? = _ from h]
theorem BoxT.frozen {W:World} {B:Nat} {x:Tm} (h:BoxT W B x) (j:Nat):W.frozen? ⟨B,j,none⟩=false:=by simp [World.frozen?,show W.heap[B]? = _ from h]
theorem BoxT.new (W:World) (x:Tm):BoxT (W.alloc (.cells #[.int .i64 x.1,.int .i64 x.2] 78)) W.heap.size x:=World.alloc_heap_new W _
theorem BoxT.kept {W W':World} {row:Option Nat} {B:Nat} {x:Tm} (h:BoxT W B x) (hg:W.grownBy W' row) (hne:some B≠row):BoxT W' B x:=(hg.block B h.lt hne).trans h
theorem BoxT.alloc {W:World} {B:Nat} {x:Tm} (h:BoxT W B x) (o:Obj):BoxT (W.alloc o) B x:=h.kept (World.grownBy_alloc W o none) (by simp)
theorem BoxT.below {W W':World} {B n:Nat} {x:Tm} (h:BoxT W B x) (hb:Below n W W') (hn:B<n):BoxT W' B x:=(hb.block B hn).trans h
theorem boxT_own {β:Type} (B:Nat) (f:β→Tm):Own (fun s W=>BoxT W B (f s)):=fun s X Y row hs hg hrow =>
 hs.kept hg (fun e'=>by obtain ⟨o,ho,hc⟩:=hrow B e'.symm;rw [show X.heap[B]? = _ from hs] at ho;cases ho;cases hc)
theorem zcg {W W':World} {B n:Nat} {t:TypeId} {v:Value} (h:Boxed W B t v) (hb:Below n W W') (hn:B<n):Boxed W' B t v:=(hb.block B hn).trans h
theorem boxed_put {W:World} {B:Nat} {t:TypeId} {v:Value} (h:Boxed W B t v) {l:Nat} {o:Obj} (o':Obj) (hl:W.heap[l]? = some o) (ho:o.isCells=false):Boxed (W.putObj l o') B t v :=
 boxed_own B t (fun (_:Unit)=>v) () W _ (some l) h (grownBy_putObj' W l o') (fun r e=>by cases e;exact ⟨o,hl,ho⟩)
theorem BoxT.put {W:World} {B:Nat} {x:Tm} (h:BoxT W B x) {l:Nat} {o:Obj} (o':Obj) (hl:W.heap[l]? = some o) (ho:o.isCells=false):BoxT (W.putObj l o') B x :=
 boxT_own B (fun (_:Unit)=>x) () W _ (some l) h (grownBy_putObj' W l o') (fun r e=>by cases e;exact ⟨o,hl,ho⟩)
abbrev tmV (x:Tm):Value:=.agg #[.int .i64 x.1,.int .i64 x.2]
theorem BoxT.set {W:World} {B:Nat} {y:Tm} (x:Tm) (h:BoxT W B y):BoxT ((W.setCell ⟨B,0,none⟩ (.int .i64 x.1)).setCell ⟨B,1,none⟩ (.int .i64 x.2)) B x:=by
 obtain ⟨hlt,hk⟩:=Array.getElem?_eq_some_iff.1 h
 have h1:(W.setCell ⟨B,0,none⟩ (.int .i64 x.1)).heap[B]? = some (.cells #[.int .i64 x.1,.int .i64 y.2] 78 (0,0)):=by
  show (W.heap.modify B _)[B]? = _
  rw [Array.getElem?_eq_getElem (by rw [Array.size_modify];exact hlt),Array.getElem_modify_self,hk]
  rfl
 obtain ⟨hlt1,hk1⟩:=Array.getElem?_eq_some_iff.1 h1
 show ((W.setCell ⟨B,0,none⟩ (.int .i64 x.1)).heap.modify B _)[B]? = _
 rw [Array.getElem?_eq_getElem (by rw [Array.size_modify];exact hlt1),Array.getElem_modify_self,hk1]
 rfl
theorem zcv (W:World) (b j:Nat) (v:Value):W.grownBy (W.setCell ⟨b,j,none⟩ v) (some b) :=
 ⟨rfl,rfl,rfl,(KeepsWalks.setCell W _ v).size,fun k _ hk=>Below.heap_setCell _ _ _ k (fun e=>hk (by rw [e]))⟩
theorem BoxT.other {W:World} {B B':Nat} {x:Tm} (h:BoxT W B x) (hne:B≠B') (j:Nat) (u:Value):BoxT (W.setCell ⟨B',j,none⟩ u) B x:=h.kept (zcv W B' j u) (fun e=>hne (by cases e;rfl))
theorem Try.info78:(Try.prog.info? 78).map (fun i=>(i.zero,i.size,i.bytes))=some (some (.agg #[.int .i64 0,.int .i64 0]),2,16):=by kernel_rfl
def za8 (l:List Tm):List Value:=l.flatMap fun b=>[Value.int .i64 b.1,Value.int .i64 b.2]
theorem zb9 (l:List Tm):(za8 l).length=l.length*2:=by
 induction l with
 | nil=>rfl
 | cons a r ih =>
  have:za8 (a::r)=[Value.int .i64 a.1,Value.int .i64 a.2]++za8 r:=rfl
  rw [this,List.length_append,ih,List.length_cons];simp;omega
theorem zgs (l r:List Tm):za8 (l++r)=za8 l++za8 r:=by simp [za8]
theorem zfj (l:List Tm) (x:Tm):za8 (l++[x])=za8 l++[.int .i64 x.1,.int .i64 x.2]:=by simp [za8]
theorem zc1:∀ (l:List Tm) (j:Nat),j<l.length→(za8 l)[j*2]? = some (.int .i64 (l[j]?.getD (0,0)).1)∧(za8 l)[j*2+1]? = some (.int .i64 (l[j]?.getD (0,0)).2)
 | [],j,h=>by simp at h
 | a::r,0,_=>by simp [za8]
 | a::r,j+1,h=>by
  have:za8 (a::r)=Value.int .i64 a.1::Value.int .i64 a.2::za8 r:=rfl
  have ih:=zc1 r j (by simpa using h)
  rw [this,show (j+1)*2=j*2+1+1 from by omega]
  simpa using ih
theorem tcells_one (l:List Tm):∀ u∈za8 l,u.oneCell'=true:=by
 intro u hu
 simp only [za8,List.mem_flatMap] at hu
 obtain ⟨x,_,hu⟩:=hu
 simp only [List.mem_cons,List.not_mem_nil,or_false] at hu
 rcases hu with rfl|rfl<;>rfl
def RowT (w:World) (B:Nat) (va:Option Addr) (L vc:Nat) (l:List Tm):Prop :=
 w.ownsRow B 78 2 (.slice va L vc) L (za8 l)
theorem RowT.nil (w:World) (B:Nat):RowT w B none 0 0 []:=World.ownsRow_nil _ _ _ _
theorem RowT.len {w:World} {B:Nat} {va:Option Addr} {L vc:Nat} {l:List Tm} (h:RowT w B va L vc l):l.length=L:=by
 have:=h.1;rw [zb9] at this;omega
theorem RowT.max {w:World} {B:Nat} {va:Option Addr} {L vc:Nat} {l:List Tm} (h:RowT w B va L vc l):L≤vc∧vc≤maxLen:=by
 rcases h.2 with ⟨e,h0⟩|⟨g,cap,cur,e,hg,hh,hc,hm,hsz,ht⟩
 · cases e;exact ⟨by omega,by simp [maxLen]⟩
 · cases e;exact ⟨hc,hm⟩
theorem RowT.tims {w:World} {B:Nat} {va:Option Addr} {L vc:Nat} {l:List Tm} (h:RowT w B va L vc l):za0 w va l:=by
 have hL:=h.len
 have hM:=h.max
 refine ⟨by omega,fun j hj=>?_⟩
 rcases h.2 with ⟨e,h0⟩|⟨g,cap,cur,e,hg,hh,hc,hm,hsz,ht⟩
 · omega
 · cases e
   refine ⟨g,0,rfl,?_⟩
   have hat:=zc1 l j hj
   have h2:∀ k,k<L*2→cur[k]? = (za8 l)[k]?:=fun k hk=>by
    have:(cur.toList.take (L*2))[k]? = (za8 l)[k]?:=by rw [ht]
    rw [List.getElem?_take_of_lt hk] at this
    simpa using this
   have e1:=h2 (j*2) (by omega)
   have e2:=h2 (j*2+1) (by omega)
   rw [hat.1] at e1
   rw [hat.2] at e2
   unfold World.cell?
   simp only [hh,Nat.zero_add]
   exact ⟨e1,e2⟩
theorem RowT.alloc {w:World} {B:Nat} {va:Option Addr} {L vc:Nat} {l:List Tm} (h:RowT w B va L vc l) (o:Obj):RowT (w.alloc o) B va L vc l:=World.ownsRow.alloc h o
theorem RowT.below {w w':World} {B:Nat} {va:Option Addr} {L vc:Nat} {l:List Tm} (h:RowT w B va L vc l) {n:Nat} (hb:Below n w w') (hn:w.heap.size≤n):RowT w' B va L vc l:=by
 refine ⟨h.1,?_⟩
 rcases h.2 with h'|⟨g,c,cur,e,hB,hh,r⟩
 · exact .inl h'
 · exact .inr ⟨g,c,cur,e,hB,(hb.block g (by have:=(Array.getElem?_eq_some_iff.1 hh).1;omega)).trans hh,r⟩
theorem RowT.mono {w:World} {B B':Nat} {va:Option Addr} {L vc:Nat} {l:List Tm} (h:RowT w B va L vc l) (hb:B'≤B):RowT w B' va L vc l:=by
 refine ⟨h.1,?_⟩
 rcases h.2 with h'|⟨g,c,cur,e,hB,r⟩
 · exact .inl h'
 · exact .inr ⟨g,c,cur,e,by omega,r⟩
theorem rowT_of {w:World} {B n:Nat} {v:Value} {l:List Tm} (h:w.ownsRow B 78 2 v n (za8 l)):∃ va vc,v=.slice va n vc∧RowT w B va n vc l:=by
 rcases h.2 with ⟨rfl,h0⟩|⟨g,c,cur,rfl,r⟩
 · subst h0
   exact ⟨none,0,rfl,h⟩
 · exact ⟨_,_,rfl,h⟩
theorem zde (w:World) (vs:List Value) (t:TypeId):∀ j u,vs[j]? = some u→(w.alloc (.cells vs.toArray t)).cell? ((⟨w.heap.size,0,none⟩:Addr).add j)=some u:=by
 intro j u hj
 have h1:=World.cell?_alloc_at (w:=w) vs.toArray t w.heap.size j rfl
 have h2:(⟨w.heap.size,0,none⟩:Addr).add j=⟨w.heap.size,j,none⟩:=by
  cases j<;>simp [Addr.add]
 rw [h2,h1]
 simpa using hj
theorem two_one {f t:Int}:∀ u∈[Value.int .i64 f,Value.int .i64 t],u.oneCell'=true:=by
 intro u hu
 simp only [List.mem_cons,List.not_mem_nil,or_false] at hu
 rcases hu with rfl|rfl<;>rfl
theorem za4 {B:Nat} {w wa w':World} {e:TypeId} {s n:Nat} {v:Value} {xs:List Value} (hB:Below B w wa) (hs:B≤wa.heap.size) (ho:wa.ownsRow B e s v n xs) (hg:wa.grownBy w' v.ownBlock):Below B w w':=by
 refine hB.grown hg hs (fun k hk=>?_)
 rcases ho.2 with ⟨rfl,_⟩|⟨g,cap,cur,rfl,h,_⟩
 · simp [Value.ownBlock] at hk
 · simp only [Value.ownBlock,Option.some.injEq] at hk
   omega
theorem za0.news {w:World} {b o:Nat} {l:List Tm} (h:za0 w (some ⟨b,o,none⟩) l):∀ j u,(za8 l)[j]? = some u→w.cell? ((⟨b,o,none⟩:Addr).add j)=some u:=by
 intro j u hj
 have hjl:j<l.length*2:=by
  rcases Nat.lt_or_ge j (l.length*2) with h|h
  · exact h
  · rw [List.getElem?_eq_none (by rw [zb9];exact h)] at hj;cases hj
 have hplain:(⟨b,o,none⟩:Addr).add j=⟨b,o+j,none⟩:=by unfold Addr.add;split<;>simp_all
 rw [hplain]
 obtain ⟨_,_,e,hc,hd⟩:=h.2 (j / 2) (by omega)
 cases e
 have hat:=zc1 l (j / 2) (by omega)
 rcases Nat.mod_two_eq_zero_or_one j with h0|h0
 · have ej:j / 2*2=j:=by omega
   rw [ej] at hc hat
   rw [hc,← hat.1];exact hj
 · have ej:j / 2*2+1=j:=by omega
   rw [show o+j / 2*2+1=o+(j / 2*2+1) from by omega,ej] at hd
   rw [ej] at hat
   rw [hd,← hat.2];exact hj
theorem za0.later {w w':World} {a:Option Addr} {l:List Tm} (h:za0 w a l) (hb:Below w.heap.size w w'):za0 w' a l:=h.below hb (Nat.le_refl _)
theorem za0.alloc {w:World} {a:Option Addr} {l:List Tm} (h:za0 w a l) (o:Obj):za0 (w.alloc o) a l:=h.later ((Below.refl _ w).alloc (Nat.le_refl _) o)
theorem below_next {w w1 w2:World} (h:Below w.heap.size w w1) (h':Below w1.heap.size w1 w2):Below w.heap.size w w2:=h.trans (h'.mono h.size)
theorem row_mk {w:World} {B g L vc:Nat} {l:List Tm} {cur:List Value} (hg:B≤g) (hh:w.heap[g]? = some (.cells cur.toArray 78 (0,0))) (hc:L≤vc) (hm:vc≤maxLen) (hs:cur.length=vc*2) (hl:l.length=L) (ht:cur.take (L*2)=za8 l):RowT w B (some ⟨g,0,none⟩) L vc l :=
 ⟨by rw [zb9,hl],.inr ⟨g,vc,cur.toArray,rfl,hg,hh,hc,hm,by simpa using hs,by simpa using ht⟩⟩
theorem zfz (w:World) (B:Nat) (va:Option Addr) (n vc:Nat) (xs:List Tm) (hO:RowT w B va n vc xs) (hB:B≤w.heap.size) (A:Option Addr) (c:Nat) (l:List Tm) (hT:za0 w A l) (hA:A=none→c=0) (hb:(n+l.length)*16≤140737488355328) :
 ∃ va' vc' w',(Builtin.append_ #[25,25] 25 #[.slice va n vc,.slice A l.length c]).run Try.prog w=.ok (.slice va' (n+l.length) vc') w'∧RowT w' B va' (n+l.length) vc' (xs++l)∧w.grownBy w' (Value.slice va n vc).ownBlock:=by
 obtain ⟨i0,hi,hz0,hz1,hz2⟩:=info_parts Try.info78
 cases A with
 | none =>
  have hc:=hA rfl
  have hl:l=[]:=by
   cases l with
   | nil=>rfl
   | cons a r=>obtain ⟨_,_,e,_⟩:=hT.2 0 (by simp);cases e
  subst hc;subst hl
  refine ⟨va,vc,w,?_,by simpa using hO,⟨rfl,rfl,rfl,Nat.le_refl _,fun _ _ _=>rfl⟩⟩
  have h:=run_append_owned_none (P:=Try.prog) (w:=w) B 25 25 78 i0 2 Try.underlying25 hi _ n _ hO
  simpa using h
 | some ad =>
  have hnews:∀ j u,(za8 l)[j]? = some u→w.cell? (ad.add j)=some u:=by
   cases l with
   | nil=>intro j u hj;simp [za8] at hj
   | cons a r =>
    obtain ⟨b,o,e,_⟩:=hT.2 0 (by simp)
    cases e
    exact hT.news
  obtain ⟨v',w',hr,h1,h2,_⟩:=run_append_own (P:=Try.prog) w B 25 25 78 i0 (.agg #[.int .i64 0,.int .i64 0]) 2 16 Try.underlying25 hi hz0 hz1 hz2 rfl (by decide) _ n _ hO ad l.length c (za8 l) (by rw [zb9]) hnews (tcells_one l) (by unfold maxLen;omega) hb hB
  rw [← zgs] at h1
  obtain ⟨va',vc',rfl,hR⟩:=rowT_of h1
  exact ⟨va',vc',w',hr,hR,h2⟩
theorem row_none {w:World} {B:Nat} {va:Option Addr} {L vc:Nat} {l:List Tm} (h:RowT w B va L vc l):va=none→vc=0:=by
 intro e
 rcases h.2 with ⟨e',_⟩|⟨g,cap,cur,e',_⟩
 · cases e';rfl
 · cases e';cases e
theorem zen (w:World) (B:Nat) (hB:B≤w.heap.size):RowT (w.alloc (.cells #[] 78)) B (some ⟨w.heap.size,0,none⟩) 0 0 [] :=
 row_mk (cur:=[]) hB (World.alloc_heap_new w _) (Nat.le_refl _) (by simp [maxLen]) rfl rfl rfl
end Go.Proofs.Ytkigcdmlkmcdcaa
/- The iterator over spans: whatever the loop's body, as long as it keeps what lay. -/
namespace Go.Proofs.Ytkigcdmlkmcdcaa
open Go.ChangeShapes Go.WideShapes Go.ChangeAt Go.RowKit Go.Shelf
set_option linter.unusedVariables false
attribute [local go_sem] Oper.semAt_some
set_option maxHeartbeats 1000000 in
theorem each_in (F:Fence) (n:Nat) (h27:F.fn 71) (hro:F.round=none) (a:Option Addr) (len cap:Nat) (w:World) :
 CallsIn F n Try.prog 71 #[.slice a len cap] w fun e w'=>e=.returned (.func (.func 84) #[] #[.pointer (some ⟨w.heap.size,0,none⟩)])∧w'=w.alloc (.cells #[.slice a len cap] 25):=by
 refine callsIn_of_wp Try.func71 rfl h27 ?_ hro
 simp only [Try.ntmps71,List.size_toArray,List.length_cons,List.length_nil,Nat.reduceAdd,Nat.reduceSub,Array.replicate_succ,Array.replicate_zero,List.push_toArray,List.append_toArray,List.nil_append,List.cons_append]
 gi_wp2
 go_ret
 exact ⟨rfl,rfl⟩
def lies (A:Option Addr) (k:Nat):Prop:=∃ o s,A=some ⟨k,o,s⟩
set_option maxRecDepth 100000 in
set_option maxHeartbeats 2000000 in
theorem each_deep (n:Nat) (Bs cap:Nat) (A:Option Addr) (ts:List Tm) (w0 w:World) (hT:za0 w0 A ts) (hw:Below w0.heap.size w0 w) (hBs:w.cell? ⟨Bs,0,none⟩=some (.slice A ts.length cap)) :
 zch Fence.wide n Try.prog 84 #[.pointer (some ⟨Bs,0,none⟩)] (fun x:Tm=>#[Value.agg #[.int .i64 x.1,.int .i64 x.2]]) (fun k=>lies A k∧k<w0.heap.size) (fun ys=>ys=ts) (fun pre=>pre <+: ts) (fun q=>q <+: ts) w:=by
 intro l J Jx W hW hJ hJx hY h0
 have hml:ts.length≤9223372036854775807:=hT.1
 have hT0:Hid (za0 w0 A ts):=hT
 have hw1:Hid (Below w0.heap.size w0 W):=hw.trans (hW.mono hw.size)
 have hBs1:W.cell? ⟨Bs,0,none⟩=some (.slice A ts.length cap):=(hW.cell (p:=⟨Bs,0,none⟩) (zac hBs)).trans hBs
 clear hT hBs hW hw
 have HJ0:Hid (zdt W.heap.size J):=hJ
 have HJx0:Hid (zdt W.heap.size Jx):=hJx
 clear hJ hJx
 refine callsIn_of_wp Try.func84 rfl trivial ?_ rfl
 simp only [Try.ntmps84,List.size_toArray,List.length_cons,List.length_nil,Nat.reduceAdd,Nat.reduceSub,Array.replicate_succ,Array.replicate_zero,List.push_toArray,List.append_toArray,List.nil_append,List.cons_append]
 gi_wp2
 gi_loopw [7] (fun vi wr=>∃ (i:Nat),i≤ts.length∧vi=.int .i64 i∧Hid (∃ Z,J (ts.take i) Z wr∧(∀ k,Z k→W.heap.size≤k∧k<wr.heap.size)∧W.heap.size≤wr.heap.size∧(∀ k,k<w0.heap.size→lies A k→wr.heap[k]? = W.heap[k]?)))
  (fun vi _=>ts.length-(intOf vi).toNat)
 case atStart=>exact ⟨0,Nat.zero_le _,rfl,_,h0,fun k h=>h.elim,Nat.le_refl _,fun _ _ _=>rfl⟩
 case round =>
  obtain ⟨i,hi,rfl,HJ⟩:=hrel
  by_cases hlt:i<ts.length
  · obtain ⟨Z,hj,hz,hsz,hk⟩:=HJ.out
    obtain ⟨b,o,rfl,hc,hd⟩:=hT0.out.2 i hlt
    obtain ⟨x,hx⟩:∃ x,ts[i]?.getD (0,0)=x:=⟨_,rfl⟩
    rw [hx] at hc hd
    have hb:wr.heap[b]? = w0.heap[b]?:=(hk b (zac hc) ⟨_,_,rfl⟩).trans (hw1.out.block b (zac hc))
    have hcx:wr.cell? ⟨b,o+i*2,none⟩=some (.int .i64 x.1):=(World.cell?_of_block (w:=w0) hb).trans hc
    have hdx:wr.cell? ⟨b,o+i*2+1,none⟩=some (.int .i64 x.2):=(World.cell?_of_block (w:=w0) hb).trans hd
    have htk:Hid (ts.take (i+1)=ts.take i++[x]):=zc2 hlt hx
    have hj1:=HJ0.out _ _ _ _ hj (Apart.alloc _ _ _ (.cells #[.int .i64 x.1,.int .i64 x.2] 78))
    obtain ⟨fn,tmps,assign,body,hy,hR⟩:=hY (ts.take i) x Z (wr.alloc (.cells #[.int .i64 x.1,.int .i64 x.2] 78)) hj1 (by simp;omega) (fun k hk=>⟨(hz k hk).1,by have:=(hz k hk).2;simp;omega⟩) (by rw [← htk.out];exact List.take_prefix _ _)
    have HK:Hid ((∀ k,Z k→W.heap.size≤k∧k<wr.heap.size)∧W.heap.size≤wr.heap.size∧(∀ k,k<w0.heap.size→lies (some ⟨b,o,none⟩) k→wr.heap[k]? = W.heap[k]?)):=⟨hz,hsz,hk⟩
    clear hx hc hd hz hsz hk hj hj1 HJ hb
    gi_wp2
    refine ⟨fun h=>by simp [Fence.wide] at h,hR.mono ?_⟩
    rintro e W3 ⟨Z',hM,(⟨rfl,hJ3⟩|⟨rfl,hJx3⟩)⟩
    · have HN:Hid (∃ Z,J (ts.take (i+1)) Z W3∧(∀ k,Z k→W.heap.size≤k∧k<W3.heap.size)∧W.heap.size≤W3.heap.size∧(∀ k,k<w0.heap.size→lies (some ⟨b,o,none⟩) k→W3.heap[k]? = W.heap[k]?)):=by
       obtain ⟨hz,hsz,hk⟩:=HK.out
       have h1:=hM.flat.size
       rw [World.size_alloc] at h1
       refine ⟨Z',by rw [htk.out];exact hJ3,fun k hk'=>⟨?_,hM.lt k hk'⟩,by omega,fun k hkl hk'=>?_⟩
       · rcases hM.new k hk' with h|h
         · exact (hz k h).1
         · rw [World.size_alloc] at h;omega
       · have hk0:=hw1.out.size
         exact ((hM.same k (by simp;omega) (.inl ⟨hk',hkl⟩) (fun h=>by have:=(hz k h).1;omega)).trans (Below.heap_alloc _ _ _ (by omega))).trans (hk k hkl hk')
      clear hM hJ3 HK
      gi_wp2
      go_roundw
      case rel=>exact ⟨i+1,by omega,by go_num,HN.out⟩
      case measure=>simp [intOf];omega
    · clear hM
      gi_wp2
      refine bodyPost_ret (results_none rfl _ _ _) rfl ?_
      exact ⟨⟨_,rfl⟩,.inr ⟨_,Z',by rw [← htk.out];exact List.take_prefix _ _,hJx3⟩⟩
  · obtain rfl:i=ts.length:=by omega
    obtain ⟨Z,hj,_⟩:=HJ.out
    gi_wp2
    go_end0
    exact ⟨⟨_,rfl⟩,.inl ⟨_,Z,by simp,hj⟩⟩
end Go.Proofs.Ytkigcdmlkmcdcaa
/- What is missing, given one by one. -/
namespace Go.Proofs.Ytkigcdmlkmcdcaa
open Go.ChangeShapes Go.WideShapes Go.ChangeAt Go.RowKit Go.Shelf
set_option linter.unusedVariables false
attribute [local go_sem] Oper.semAt_some
theorem BoxT.apart {X Y:World} {B b:Nat} {x:Tm} {Z:Nat→Prop} (h:BoxT X B x) (hA:Apart b Z X Y) (hb:B<b∨Z B):BoxT Y B x:=(hA.same B h.lt hb).trans h
theorem zbm {X Y:World} {B b:Nat} {t:TypeId} {v:Value} {Z:Nat→Prop} (h:Boxed X B t v) (hA:Apart b Z X Y) (hb:B<b∨Z B):Boxed Y B t v:=(hA.same B h.lt hb).trans h
theorem BoxT.mine {X Y:World} {B b:Nat} {x:Tm} {R Z Z':Nat→Prop} (h:BoxT X B x) (hM:Mine b R Z X Z' Y) (hb:R B∨b≤B) (hz:¬Z B):BoxT Y B x:=(hM.same B h.lt hb hz).trans h
theorem zgn {X Y:World} {B b:Nat} {t:TypeId} {v:Value} {R Z Z':Nat→Prop} (h:Boxed X B t v) (hM:Mine b R Z X Z' Y) (hb:R B∨b≤B) (hz:¬Z B):Boxed Y B t v:=(hM.same B h.lt hb hz).trans h
theorem apart_set {b:Nat} {Z:Nat→Prop} (X:World) {B:Nat} (v:Value) (hb:b≤B) (hz:¬Z B):Apart b Z X (X.setCell ⟨B,0,none⟩ v):=Apart.of_grown (grownBy_setCell' X B v) (fun k e=>by cases e;exact ⟨hb,hz⟩)
set_option maxHeartbeats 1000000 in
theorem missing_in (F:Fence) (n:Nat) (h28:F.fn 86) (hro:F.round=none) (a:Option Addr) (len cap:Nat) (s:Tm) (w:World) :
 CallsIn F n Try.prog 86 #[.slice a len cap,tmV s] w fun e w'=>e=.returned (.func (.func 90) #[] #[.pointer (some ⟨w.heap.size+1,0,none⟩),.pointer (some ⟨w.heap.size,0,none⟩)])∧w'=(w.alloc (.cells #[.slice a len cap] 25)).alloc (.cells #[.int .i64 s.1,.int .i64 s.2] 78):=by
 refine callsIn_of_wp Try.func86 rfl h28 ?_ hro
 simp only [Try.ntmps86,List.size_toArray,List.length_cons,List.length_nil,Nat.reduceAdd,Nat.reduceSub,Array.replicate_succ,Array.replicate_zero,List.push_toArray,List.append_toArray,List.nil_append,List.cons_append]
 gi_wp2
 go_ret
 exact ⟨rfl,rfl⟩
set_option maxRecDepth 100000 in
set_option maxHeartbeats 4000000 in
theorem miss_deep (n:Nat) (Bs Bl cap:Nat) (A:Option Addr) (ts:List Tm) (s:Tm) (w0 w:World) (hT:za0 w0 A ts) (hw:Below w0.heap.size w0 w) (hL:w.cell? ⟨Bl,0,none⟩=some (.slice A ts.length cap)) (bS:BoxT w Bs s) :
 zch Fence.wide n Try.prog 90 #[.pointer (some ⟨Bs,0,none⟩),.pointer (some ⟨Bl,0,none⟩)] (fun x:Tm=>#[Value.agg #[.int .i64 x.1,.int .i64 x.2]]) (fun k=>(lies A k∧k<w0.heap.size)∨k=Bs)
  (fun ys=>ys=gapsL ts s.1 s.2) (fun pre=>pre <+: gapsL ts s.1 s.2) (fun q=>q <+: gapsL ts s.1 s.2) w:=by
 intro l J Jx W hW hJ hJx hY h0
 have hw1:Below w0.heap.size w0 W:=hw.trans (hW.mono hw.size)
 have hL1:W.cell? ⟨Bl,0,none⟩=some (.slice A ts.length cap):=(hW.cell (p:=⟨Bl,0,none⟩) (zac hL)).trans hL
 have bS1:BoxT W Bs s:=bS.below hW bS.lt
 clear hL bS hw hW
 refine callsIn_wide.2 ((callsIn_wide (n:=6)).1 ?_)
 refine callsIn_of_wp_marks Try.func90 rfl trivial ?_ rfl
 simp only [Try.ntmps90,List.size_toArray,List.length_cons,List.length_nil,Nat.reduceAdd,Nat.reduceSub,Array.replicate_succ,Array.replicate_zero,List.push_toArray,List.append_toArray,List.nil_append,List.cons_append]
 have s0:=bS1.cell0
 have hLt:=zac hL1
 have HLT:Hid (Bl<W.heap.size):=hLt
 clear hLt
 have l1:((W.alloc (.cells #[.func (.yield l) #[] #[]] 115)).alloc (.cells #[.int .i64 s.1] 3)).cell? ⟨Bl,0,none⟩=some (.slice A ts.length cap):=by
  rw [World.cell?_of_block (Below.heap_alloc _ _ _ (by have:=HLT.out;simp;omega)),World.cell?_of_block (Below.heap_alloc _ _ _ HLT.out)];exact hL1
 have s1:(W.alloc (.cells #[.func (.yield l) #[] #[]] 115)).cell? ⟨Bs,0,none⟩=some (.int .i64 s.1):=(bS1.alloc _).cell0
 gi_wp2
 refine zf4 ?_
 gi_wp2
 refine wpIn_label ?_
 gi_wp2_with (refine ⟨trivial,?_⟩;gi_at_call 71;refine (each_in Fence.wide _ trivial rfl _ _ _ _).mono ?_;rintro e w' ⟨rfl,rfl⟩)
 have bY:=((Boxed.new W 115 (.func (.yield l) #[] #[])).alloc (.cells #[.int .i64 s.1] 3)).alloc (.cells #[.slice A ts.length cap] 25)
 have bF:=(Boxed.new (W.alloc (.cells #[.func (.yield l) #[] #[]] 115)) 3 (.int .i64 s.1)).alloc (.cells #[.slice A ts.length cap] 25)
 have bN:=Boxed.new ((W.alloc (.cells #[.func (.yield l) #[] #[]] 115)).alloc (.cells #[.int .i64 s.1] 3)) 25 (.slice A ts.length cap)
 have bS2:=((bS1.alloc (.cells #[.func (.yield l) #[] #[]] 115)).alloc (.cells #[.int .i64 s.1] 3)).alloc (.cells #[.slice A ts.length cap] 25)
 simp only [World.size_alloc] at bF bN
 have hB:Below W.heap.size W (((W.alloc (.cells #[.func (.yield l) #[] #[]] 115)).alloc (.cells #[.int .i64 s.1] 3)).alloc (.cells #[.slice A ts.length cap] 25)):=(((Below.refl _ W).alloc (Nat.le_refl _) _).alloc (by simp) _).alloc (by simp;omega) _
 have hsz:(((W.alloc (.cells #[.func (.yield l) #[] #[]] 115)).alloc (.cells #[.int .i64 s.1] 3)).alloc (.cells #[.slice A ts.length cap] 25)).heap.size=W.heap.size+3:=by simp
 have hJ0:J [] (fun _=>False) (((W.alloc (.cells #[.func (.yield l) #[] #[]] 115)).alloc (.cells #[.int .i64 s.1] 3)).alloc (.cells #[.slice A ts.length cap] 25)):=hJ _ _ _ _ (hJ _ _ _ _ (hJ _ _ _ _ h0 (Apart.alloc _ _ _ _)) (Apart.alloc _ _ _ _)) (Apart.alloc _ _ _ _)
 obtain ⟨W0,hW0⟩:∃ W0,((W.alloc (.cells #[.func (.yield l) #[] #[]] 115)).alloc (.cells #[.int .i64 s.1] 3)).alloc (.cells #[.slice A ts.length cap] 25)=W0:=⟨_,rfl⟩
 rw [hW0] at bY bF bN bS2 hB hsz hJ0 ⊢
 have hBs:Bs<W.heap.size:=bS1.lt
 have hE:=each_deep 5 (W.heap.size+1+1) cap A ts w0 W0 hT (hw1.trans (hB.mono hw1.size)) bN.cell
 have h0w:w0.heap.size≤W.heap.size:=hw1.size
 clear hW0 s0 s1 l1 hL1 bS1 h0 bN hB hw1 hT
 have HJ:Hid (zdt W.heap.size J):=hJ
 have HJx:Hid (zdt W.heap.size Jx):=hJx
 clear hJ hJx
 refine zcz (F:=Fence.wide) (n:=6) rfl (by omega) (gf:=84) (lb:=#[.pointer (some ⟨W.heap.size+1+1,0,none⟩)]) rfl trivial (enters_of Try.func84 (by kernel_rfl) rfl) hE (Below.refl _ _) (fun _=>rfl)
  (fun k hk=>by have:=hk.2;omega)
  (fun pre Z V=>J (outs pre s.1).1 Z V∧BoxT V Bs s∧Boxed V W.heap.size 115 (.func (.yield l) #[] #[])∧Boxed V (W.heap.size+1) 3 (.int .i64 (outs pre s.1).2)∧(∀ y∈pre,y.1<s.2))
  (fun c pre Z V=>(c=.exit 0∧∃ p x,pre=p++[x]∧J (outs p s.1).1 Z V∧BoxT V Bs s∧Boxed V W.heap.size 115 (.func (.yield l) #[] #[])∧Boxed V (W.heap.size+1) 3 (.int .i64 (outs p s.1).2)∧(∀ y∈p,y.1<s.2)∧s.2≤x.1)∨(c=.ret∧∃ q,q <+: gapsL ts s.1 s.2∧Jx q Z V))
  ?hI ?hIx ⟨hJ0,bS2,bY,bF,fun y hy=>by cases hy⟩ ?round ?done ?stop
 case hI =>
  rintro pre Z X Y ⟨h1,h2,h3,h4,h5⟩ hA
  exact ⟨HJ.out _ _ _ _ h1 (hA.mono (by omega) (fun k h _=>.inl h)),h2.apart hA (.inl (by omega)),zbm h3 hA (.inl (by omega)),zbm h4 hA (.inl (by omega)),h5⟩
 case hIx =>
  rintro c pre Z X Y (⟨hc,p,x,e,h1,h2,h3,h4,h5,h6⟩|⟨hc,q,hq,h1⟩) hA
  · exact .inl ⟨hc,p,x,e,HJ.out _ _ _ _ h1 (hA.mono (by omega) (fun k h _=>.inl h)),h2.apart hA (.inl (by omega)),zbm h3 hA (.inl (by omega)),zbm h4 hA (.inl (by omega)),h5,h6⟩
  · exact .inr ⟨hc,q,hq,HJx.out _ _ _ _ h1 (hA.mono (by omega) (fun k h _=>.inl h))⟩
 case round =>
  rintro l' pre x Z W1 hl hll hz ⟨hJ1,bS1,bY1,bF1,hlt⟩ hG
  have hz':∀ k,Z k→k<W1.heap.size:=fun k hk=>(hz k hk).2.1
  have hzb:∀ k,k<W.heap.size+3→¬Z k:=fun k hk h=>by have:=(hz k h).1;omega
  have HZ:Hid ((∀ k,Z k→W0.heap.size≤k∧k<W1.heap.size∧k≠l')∧(∀ k,Z k→k<W1.heap.size)∧(∀ k,k<W.heap.size+3→¬Z k)):=⟨hz,hz',hzb⟩
  have HG:Hid (pre++[x] <+: ts):=hG
  have HLT:Hid (∀ y∈pre,y.1<s.2):=hlt
  have HJ1:Hid (J (outs pre s.1).1 Z W1):=hJ1
  have HY:Hid (∀ _,_):=hY
  obtain ⟨f,hf⟩:∃ f,(outs pre s.1).2=f:=⟨_,rfl⟩
  obtain ⟨og,hog⟩:∃ og,(outs pre s.1).1=og:=⟨_,rfl⟩
  rw [hf] at bF1
  rw [hog] at HJ1
  have HF:Hid ((outs pre s.1).2=f∧(outs pre s.1).1=og):=⟨hf,hog⟩
  clear hz hz' hzb hG hlt hJ1 hf hog hY bS2 bY bF hJ0 hE
  unfold zci
  gi_wp2
  refine ⟨Mine.alloc HZ.out.2.1 _,?_⟩
  intro W2 hg2 hr2
  have bX:=(BoxT.new W1 x).kept hg2 (fun e=>by cases e;omega)
  have bS3:=(bS1.alloc (.cells #[.int .i64 x.1,.int .i64 x.2] 78)).kept hg2 (fun e=>by cases e;omega)
  have bY3:=(bY1.alloc (.cells #[.int .i64 x.1,.int .i64 x.2] 78)).kept hg2 (fun e=>by cases e;omega)
  have bF3:=(bF1.alloc (.cells #[.int .i64 x.1,.int .i64 x.2] 78)).kept hg2 (fun e=>by cases e;omega)
  have hs2:Hid (W1.heap.size+1≤W2.heap.size):=by have:=hg2.size;simp at this;exact this
  have HZ2:Hid ((∀ k,Z k→W0.heap.size≤k∧k<W2.heap.size∧k≠l')∧(∀ k,Z k→k<W1.heap.size)):=⟨fun k hk=>⟨(HZ.out.1 k hk).1,by have:=(HZ.out.1 k hk).2.1;have:=hs2.out;omega,(HZ.out.1 k hk).2.2⟩,HZ.out.2.1⟩
  have HJ2:Hid (J og Z W2):=HJ.out _ _ _ _ (HJ.out _ _ _ _ HJ1.out (Apart.alloc _ _ _ _)) (Apart.of_grown hg2 (fun k e=>by cases e;exact ⟨by omega,fun h=>(HZ.out.1 _ h).2.2 rfl⟩))
  clear bS1 bY1 bF1 HJ1 hg2 hr2
  have x0:=bX.cell0
  have x1:=bX.cell1
  have s1:=bS3.cell1
  have f0:=bF3.cell
  have ff:=bF3.frozen
  have y0:=bY3.cell
  by_cases h1:s.2≤x.1
  · gi_wp2
    refine ⟨Z,Mine.refl (fun k hk=>(HZ2.out.1 k hk).2.1),.inl ⟨rfl,pre,x,rfl,?_,bS3,bY3,?_,HLT.out,h1⟩⟩
    · rw [HF.out.2];exact HJ2.out
    · rw [HF.out.1];exact bF3
  · have HLT2:Hid (∀ y∈pre++[x],y.1<s.2):=fun y hy=>by
     rcases List.mem_append.1 hy with hy|hy
     · exact HLT.out y hy
     · simp at hy;subst hy;omega
    by_cases h2:x.2≤f
    · have HO:Hid (outs (pre++[x]) s.1=outs pre s.1):=outs_skip (by rw [HF.out.1];exact h2)
      gi_wp2
      refine ⟨Z,Mine.refl (fun k hk=>(HZ2.out.1 k hk).2.1),?_,bS3,bY3,?_,fun a b hy=>HLT2.out (a,b) hy⟩
      · rw [HO.out,HF.out.2];exact HJ2.out
      · rw [HO.out,HF.out.1];exact bF3
    · by_cases h3:f<x.1
      · have HO:Hid (outs (pre++[x]) s.1=(og++[(f,x.1)],x.2)):=by
         have h:=outs_gap (p:=pre) (f:=s.1) (x:=x) (by rw [HF.out.1];exact h2) (by rw [HF.out.1];exact h3)
         rw [HF.out.1,HF.out.2] at h
         exact h
        have HP:Hid (og++[(f,x.1)] <+: gapsL ts s.1 s.2):=by
         have h:=gaps_prefix (f:=s.1) (t:=s.2) HG.out HLT2.out
         rw [HO.out] at h
         exact h
        obtain ⟨fn,tmps,assign,body,hy,hR⟩:=zdu (F:=Fence.wide) rfl 3 (HY.out og (f,x.1) Z W2 HJ2.out (by have:=hs2.out;omega) (fun k hk=>⟨by have:=(HZ2.out.1 k hk).1;omega,(HZ2.out.1 k hk).2.1⟩) HP.out)
        dsimp only at hy
        gi_wp2
        refine hR.mono ?_
        rintro e W3 ⟨Z',hM,hcase⟩
        have hnz:∀ k,k<W0.heap.size→¬Z k:=fun k hk h=>by have:=(HZ2.out.1 k h).1;omega
        have bS4:=bS3.mine hM (.inl (.inr rfl)) (hnz _ (by omega))
        have bY4:=zgn bY3 hM (.inr (by omega)) (hnz _ (by omega))
        have bF4:=zgn bF3 hM (.inr (by omega)) (hnz _ (by omega))
        have bX4:=bX.mine hM (.inr (by omega)) (fun h=>by have:=HZ2.out.2 _ h;omega)
        have HM:Hid (∀ V,W3.grownBy V (some (W.heap.size+1))→Mine W0.heap.size (fun k=>lies A k∧k<w0.heap.size) Z W2 Z' V):=by
         intro V hgV
         refine ⟨hM.flat.trans ⟨hgV.os,hgV.tape,hgV.output,hgV.size,fun k hk=>by omega⟩,hM.new,fun k hk=>Nat.lt_of_lt_of_le (hM.lt k hk) hgV.size,fun k hk hR hzk=>?_⟩
         have h1:=hM.same k hk (hR.imp .inl (fun h=>by omega)) hzk
         refine (hgV.block k (Nat.lt_of_lt_of_le hk hM.flat.size) (fun e=>?_)).trans h1
         cases e
         rcases hR with h|h
         · have:=h.2;omega
         · omega
        have HM0:Hid (Mine W0.heap.size (fun k=>lies A k∧k<w0.heap.size) Z W2 Z' W3):=⟨hM.flat,hM.new,hM.lt,fun k hk hR hzk=>hM.same k hk (hR.imp .inl (fun h=>by omega)) hzk⟩
        have HN:Hid (∀ k,Z' k→¬(k=W.heap.size+1)):=fun k hk e=>by
         rcases hM.new k hk with h|h
         · exact hnz k (by omega) h
         · have:=hs2.out;omega
        clear hM hnz x0 x1 s1 f0 ff y0 bX bS3 bY3 bF3 hy
        rcases hcase with ⟨rfl,hJ3⟩|⟨rfl,hJx3⟩
        · have x1:=bX4.cell1
          have f0:=bF4.cell
          have ff:=bF4.frozen
          have HJ3:Hid (J (og++[(f,x.1)]) Z' W3):=hJ3
          clear hJ3
          gi_wp2
          refine ⟨Z',HM.out _ (grownBy_setCell' _ _ _),?_,bS4.other (by omega) 0 _,bY4.other (by omega) _,?_,HLT2.out⟩
          · rw [HO.out];exact HJ.out _ _ _ _ HJ3.out (apart_set _ _ (by omega) (fun h=>HN.out _ h rfl))
          · rw [HO.out];exact bF4.set _
        · gi_wp2
          exact ⟨Z',HM0.out,.inr ⟨rfl,_,HP.out,hJx3⟩⟩
      · have HO:Hid (outs (pre++[x]) s.1=(og,x.2)):=by
         have h:=outs_on (p:=pre) (f:=s.1) (x:=x) (by rw [HF.out.1];exact h2) (by rw [HF.out.1];exact h3)
         rw [HF.out.2] at h
         exact h
        gi_wp2
        refine ⟨Z,Mine.of_grown (grownBy_setCell' _ _ _) (fun k hk=>(HZ2.out.1 k hk).2.1) (fun k e=>by cases e;exact .inr ⟨by omega,fun h=>by have:=h.2;omega⟩),?_,bS3.other (by omega) 0 _,bY3.other (by omega) _,?_,fun a b hy=>HLT2.out (a,b) hy⟩
        · rw [HO.out];exact HJ.out _ _ _ _ HJ2.out (apart_set _ _ (by omega) (fun h=>by have:=(HZ2.out.1 _ h).1;omega))
        · rw [HO.out];exact bF3.set _
 case done =>
  rintro D ys Z V hD hz hys ⟨hJ1,bS1,bY1,bF1,hlt⟩ hK
  obtain rfl:=hys.symm
  obtain ⟨f,hf⟩:∃ f,(outs ts s.1).2=f:=⟨_,rfl⟩
  obtain ⟨og,hog⟩:∃ og,(outs ts s.1).1=og:=⟨_,rfl⟩
  have hgp:gapsL ts s.1 s.2=og++fin f s.2:=by rw [← hf,← hog];exact gaps_all hlt
  have HGP:Hid (gapsL ts s.1 s.2=og++fin f s.2):=hgp
  rw [hf] at bF1
  rw [hog] at hJ1
  clear hgp hf hog
  have HZ:Hid (∀ k,Z k→W0.heap.size≤k∧k<V.heap.size∧k≠D):=hz
  have HK:Hid (V.heap[D]? = some (.deferred (some []))):=hK
  have HJ1:Hid (J og Z V):=hJ1
  have HY:Hid (∀ _,_):=hY
  have hDV:D<V.heap.size:=(Array.getElem?_eq_some_iff.1 hK).1
  have hsV:W.heap.size+1<V.heap.size:=bF1.lt
  have s1:=bS1.cell1
  have f0:=bF1.cell
  have y0:=bY1.cell
  clear hz hK hJ1 hY bS2 bY bF hJ0 hE
  by_cases h3:f<s.2
  · have HP:Hid (gapsL ts s.1 s.2=og++[(f,s.2)]):=by unfold Hid;rw [HGP.out,fin,if_pos h3]
    obtain ⟨fn,tmps,assign,body,hy,hR⟩:=zdu (F:=Fence.wide) rfl 5 (HY.out og (f,s.2) Z V HJ1.out (by omega) (fun k hk=>⟨by have:=(HZ.out k hk).1;omega,(HZ.out k hk).2.1⟩) (by rw [HP.out];exact List.prefix_refl _))
    dsimp only at hy
    gi_wp2
    refine hR.mono ?_
    rintro e V3 ⟨Z',hM,hcase⟩
    have hK3:=(hM.same D hDV (.inr (by omega)) (fun h=>(HZ.out D h).2.2 rfl)).trans HK.out
    have hA:Apart W.heap.size Z' V3 (V3.putObj D (.deferred none)):=Apart.of_grown (grownBy_putObj' _ _ _) (fun k e=>by
     cases e
     refine ⟨by omega,fun h=>?_⟩
     rcases hM.new D h with h|h
     · exact (HZ.out D h).2.2 rfl
     · omega)
    clear hM
    rcases hcase with ⟨rfl,hJ3⟩|⟨rfl,hJx3⟩
    · gi_wp2
      refine ⟨by simp,.inl ⟨_,_,rfl,run_takeDeferred hK3,?_⟩⟩
      exact ⟨_,results_none rfl _ _ _,⟨_,rfl⟩,.inl ⟨_,Z',HP.out.symm,HJ.out _ _ _ _ hJ3 hA⟩⟩
    · gi_wp2
      refine ⟨by simp,.inl ⟨_,_,rfl,run_takeDeferred hK3,?_⟩⟩
      exact ⟨_,results_none rfl _ _ _,⟨_,rfl⟩,.inr ⟨_,Z',by rw [HP.out];exact List.prefix_refl _,HJx.out _ _ _ _ hJx3 hA⟩⟩
  · have HP:Hid (gapsL ts s.1 s.2=og):=by unfold Hid;rw [HGP.out,fin,if_neg h3,List.append_nil]
    have hA:Apart W.heap.size Z V (V.putObj D (.deferred none)):=Apart.of_grown (grownBy_putObj' _ _ _) (fun k e=>by cases e;exact ⟨by omega,fun h=>(HZ.out D h).2.2 rfl⟩)
    gi_wp2
    refine ⟨by simp,.inl ⟨_,_,rfl,run_takeDeferred HK.out,?_⟩⟩
    exact ⟨_,results_none rfl _ _ _,⟨_,rfl⟩,.inl ⟨_,Z,HP.out.symm,HJ.out _ _ _ _ HJ1.out hA⟩⟩
 case stop =>
  rintro D c pre Z V hD hz hpre (⟨rfl,p,x,rfl,hJ1,bS1,bY1,bF1,hlt,hx⟩|⟨rfl,q,hq,hj⟩) hK
  rotate_left
  · have hA:Apart W.heap.size Z V (V.putObj D (.deferred none)):=Apart.of_grown (grownBy_putObj' _ _ _) (fun k e=>by cases e;exact ⟨by omega,fun h=>(hz D h).2.2 rfl⟩)
    gi_wp2
    refine ⟨by simp,.inl ⟨_,_,rfl,run_takeDeferred hK,?_⟩⟩
    exact ⟨_,results_none rfl _ _ _,⟨_,rfl⟩,.inr ⟨_,Z,hq,HJx.out _ _ _ _ hj hA⟩⟩
  obtain ⟨f,hf⟩:∃ f,(outs p s.1).2=f:=⟨_,rfl⟩
  obtain ⟨og,hog⟩:∃ og,(outs p s.1).1=og:=⟨_,rfl⟩
  have hgp:gapsL ts s.1 s.2=og++fin f s.2:=by rw [← hf,← hog];exact gaps_break hpre hlt hx
  have HGP:Hid (gapsL ts s.1 s.2=og++fin f s.2):=hgp
  rw [hf] at bF1
  rw [hog] at hJ1
  clear hgp hf hog
  have HZ:Hid (∀ k,Z k→W0.heap.size≤k∧k<V.heap.size∧k≠D):=hz
  have HK:Hid (V.heap[D]? = some (.deferred (some []))):=hK
  have HJ1:Hid (J og Z V):=hJ1
  have HY:Hid (∀ _,_):=hY
  have hDV:D<V.heap.size:=(Array.getElem?_eq_some_iff.1 hK).1
  have hsV:W.heap.size+1<V.heap.size:=bF1.lt
  have s1:=bS1.cell1
  have f0:=bF1.cell
  have y0:=bY1.cell
  clear hz hK hJ1 hY bS2 bY bF hJ0 hE
  by_cases h3:f<s.2
  · have HP:Hid (gapsL ts s.1 s.2=og++[(f,s.2)]):=by unfold Hid;rw [HGP.out,fin,if_pos h3]
    obtain ⟨fn,tmps,assign,body,hy,hR⟩:=zdu (F:=Fence.wide) rfl 5 (HY.out og (f,s.2) Z V HJ1.out (by omega) (fun k hk=>⟨by have:=(HZ.out k hk).1;omega,(HZ.out k hk).2.1⟩) (by rw [HP.out];exact List.prefix_refl _))
    dsimp only at hy
    gi_wp2
    refine hR.mono ?_
    rintro e V3 ⟨Z',hM,hcase⟩
    have hK3:=(hM.same D hDV (.inr (by omega)) (fun h=>(HZ.out D h).2.2 rfl)).trans HK.out
    have hA:Apart W.heap.size Z' V3 (V3.putObj D (.deferred none)):=Apart.of_grown (grownBy_putObj' _ _ _) (fun k e=>by
     cases e
     refine ⟨by omega,fun h=>?_⟩
     rcases hM.new D h with h|h
     · exact (HZ.out D h).2.2 rfl
     · omega)
    clear hM
    rcases hcase with ⟨rfl,hJ3⟩|⟨rfl,hJx3⟩
    · gi_wp2
      refine ⟨by simp,.inl ⟨_,_,rfl,run_takeDeferred hK3,?_⟩⟩
      exact ⟨_,results_none rfl _ _ _,⟨_,rfl⟩,.inl ⟨_,Z',HP.out.symm,HJ.out _ _ _ _ hJ3 hA⟩⟩
    · gi_wp2
      refine ⟨by simp,.inl ⟨_,_,rfl,run_takeDeferred hK3,?_⟩⟩
      exact ⟨_,results_none rfl _ _ _,⟨_,rfl⟩,.inr ⟨_,Z',by rw [HP.out];exact List.prefix_refl _,HJx.out _ _ _ _ hJx3 hA⟩⟩
  · have HP:Hid (gapsL ts s.1 s.2=og):=by unfold Hid;rw [HGP.out,fin,if_neg h3,List.append_nil]
    have hA:Apart W.heap.size Z V (V.putObj D (.deferred none)):=Apart.of_grown (grownBy_putObj' _ _ _) (fun k e=>by cases e;exact ⟨by omega,fun h=>(HZ.out D h).2.2 rfl⟩)
    gi_wp2
    refine ⟨by simp,.inl ⟨_,_,rfl,run_takeDeferred HK.out,?_⟩⟩
    exact ⟨_,results_none rfl _ _ _,⟨_,rfl⟩,.inl ⟨_,Z,HP.out.symm,HJ.out _ _ _ _ HJ1.out hA⟩⟩
end Go.Proofs.Ytkigcdmlkmcdcaa
/- The contracts of Check, Find, Has and Size. -/
namespace Go.Proofs.Ytkigcdmlkmcdcaa
open Go.ChangeShapes Go.WideShapes Go.ChangeAt Go.RowKit Go.Shelf
set_option linter.unusedVariables false
attribute [local go_sem] Oper.semAt_some
theorem zd3 {m b:Nat} {w X Y:World} {Z:Nat→Prop} (h:Below m w X) (hm:m≤w.heap.size) (hb:m≤b) (hA:Apart b Z X Y):Below m w Y :=
 ⟨hA.flat.os.trans h.os,hA.flat.tape.trans h.tape,hA.flat.output.trans h.output,Nat.le_trans h.size hA.flat.size,fun k hk=>(hA.same k (by have:=h.size;omega) (.inl (by omega))).trans (h.block k hk)⟩
theorem zd2 {m:Nat} {w X Y:World} {row:Option Nat} (h:Below m w X) (hm:m≤w.heap.size) (hg:X.grownBy Y row) (hr:∀ k,row=some k→m≤k):Below m w Y:=h.grown hg (Nat.le_trans hm h.size) hr
theorem ze5 {b:Nat} {R Z:Nat→Prop} {X:World} (hZ:∀ k,Z k→k<X.heap.size) {B:Nat} (j:Nat) (v:Value) (hb:B<b) (hR:¬R B):Mine b R Z X Z (X.setCell ⟨B,j,none⟩ v) :=
 Mine.of_grown (zcv X B j v) hZ (fun k e=>by cases e;exact .inr ⟨hb,hR⟩)
set_option maxRecDepth 100000 in
set_option maxHeartbeats 2000000 in
theorem check_any (A:Option Addr) (cap:Nat) (ts:List Tm) (w:World) (hT:za0 w A ts) :
 Calls Try.prog 52 #[.slice A ts.length cap] w fun e W'=>e=.returned (.int .i64 (errI ts))∧Below w.heap.size w W':=by
 refine (callsIn_wide (n:=6)).1 ?_
 refine callsIn_of_wp_marks Try.func52 rfl trivial ?_ rfl
 simp only [Try.ntmps52,List.size_toArray,List.length_cons,List.length_nil,Nat.reduceAdd,Nat.reduceSub,Array.replicate_succ,Array.replicate_zero,List.push_toArray,List.append_toArray,List.nil_append,List.cons_append]
 gi_wp2_with (refine ⟨trivial,?_⟩;gi_at_call 71;refine (each_in Fence.wide _ trivial rfl _ _ _ _).mono ?_;rintro e w' ⟨rfl,rfl⟩)
 have bR:=((Boxed.new w 28 (.int .i64 0)).alloc (.cells #[.int .i64 (-1)] 3)).alloc (.cells #[.slice A ts.length cap] 25)
 have bL:=(Boxed.new (w.alloc (.cells #[.int .i64 0] 28)) 3 (.int .i64 (-1))).alloc (.cells #[.slice A ts.length cap] 25)
 have bN:=Boxed.new ((w.alloc (.cells #[.int .i64 0] 28)).alloc (.cells #[.int .i64 (-1)] 3)) 25 (.slice A ts.length cap)
 simp only [World.size_alloc] at bL bN
 have hB0:Below w.heap.size w (((w.alloc (.cells #[.int .i64 0] 28)).alloc (.cells #[.int .i64 (-1)] 3)).alloc (.cells #[.slice A ts.length cap] 25)):=(((Below.refl _ w).alloc (Nat.le_refl _) _).alloc (by simp) _).alloc (by simp;omega) _
 have hsz:(((w.alloc (.cells #[.int .i64 0] 28)).alloc (.cells #[.int .i64 (-1)] 3)).alloc (.cells #[.slice A ts.length cap] 25)).heap.size=w.heap.size+3:=by simp
 obtain ⟨W0,hW0⟩:∃ W0,((w.alloc (.cells #[.int .i64 0] 28)).alloc (.cells #[.int .i64 (-1)] 3)).alloc (.cells #[.slice A ts.length cap] 25)=W0:=⟨_,rfl⟩
 rw [hW0] at bR bL bN hB0 hsz ⊢
 clear hW0
 refine zcz (F:=Fence.wide) (n:=6) rfl (by omega) (gf:=84) (lb:=#[.pointer (some ⟨w.heap.size+1+1,0,none⟩)]) rfl trivial (enters_of Try.func84 (by kernel_rfl) rfl) (each_deep 5 (w.heap.size+1+1) cap A ts w W0 hT hB0 bN.cell) (Below.refl _ _) (fun _=>rfl)
  (fun k hk=>by have:=hk.2;omega)
  (fun pre Z V=>Boxed V w.heap.size 28 (.int .i64 0)∧Boxed V (w.heap.size+1) 3 (.int .i64 (lastT (-1) pre))∧chk (-1) pre=true∧Below w.heap.size w V)
  (fun c pre Z V=>c=.ret∧Boxed V w.heap.size 28 (.int .i64 60)∧chk (-1) pre=false∧Below w.heap.size w V)
  ?hI ?hIx ⟨bR,bL,rfl,hB0⟩ ?round ?done ?stop
 case hI =>
  rintro pre Z X Y ⟨h1,h2,h3,h4⟩ hA
  exact ⟨zbm h1 hA (.inl (by omega)),zbm h2 hA (.inl (by omega)),h3,zd3 h4 (Nat.le_refl _) (by omega) hA⟩
 case hIx =>
  rintro c pre Z X Y ⟨h1,h2,h3,h4⟩ hA
  exact ⟨h1,zbm h2 hA (.inl (by omega)),h3,zd3 h4 (Nat.le_refl _) (by omega) hA⟩
 case round =>
  rintro l pre x Z W1 hl hll hz ⟨bR1,bL1,hp,hB1⟩ hG
  have HZ:Hid (∀ k,Z k→W0.heap.size≤k∧k<W1.heap.size∧k≠l):=hz
  have hsn:Hid (chk (-1) (pre++[x])=okAt (lastT (-1) pre) x):=by
   have:=chk_snoc pre (-1) x
   rw [hp,Bool.true_and] at this
   exact this
  have hls:Hid (lastT (-1) (pre++[x])=x.2):=lastT_snoc _ pre x
  obtain ⟨lk,hlk⟩:∃ lk,lastT (-1) pre=lk:=⟨_,rfl⟩
  rw [hlk] at hsn bL1
  clear hp hlk hz hG bR bL bN hB0
  unfold zci
  gi_wp2
  refine ⟨Mine.alloc (fun k hk=>(HZ.out k hk).2.1) _,?_⟩
  intro W2 hg2 hr2
  have bX:=(BoxT.new W1 x).kept hg2 (fun e=>by cases e;omega)
  have bR2:=(bR1.alloc (.cells #[.int .i64 x.1,.int .i64 x.2] 78)).kept hg2 (fun e=>by cases e;omega)
  have bL2:=(bL1.alloc (.cells #[.int .i64 x.1,.int .i64 x.2] 78)).kept hg2 (fun e=>by cases e;omega)
  have hB2:Hid (Below w.heap.size w W2):=zd2 (hB1.alloc (Nat.le_trans (Nat.le_refl _) hB1.size) _) (Nat.le_refl _) hg2 (fun k e=>by cases e;omega)
  have HZ2:Hid (∀ k,Z k→k<W2.heap.size):=fun k hk=>by have h1:=(HZ.out k hk).2.1;have h2:=hg2.size;simp at h2;omega
  clear bR1 bL1 hB1 hg2 hr2
  have cL:=bL2.cell
  have fL:=bL2.frozen
  have cR:=bR2.cell
  have fR:=bR2.frozen
  have c0:=bX.cell0
  have c1:=bX.cell1
  by_cases h1:x.1≤lk
  · have HE:Hid (chk (-1) (pre++[x])=false):=by unfold Hid;rw [hsn.out];have h:¬lk<x.1:=by omega
                                                simp [okAt,h]
    gi_wp2
    exact ⟨Z,ze5 HZ2.out 0 _ (by omega) (fun h=>by have:=h.2;omega),rfl,bR2.set _,HE.out,hB2.out.setCell (p:=⟨w.heap.size,0,none⟩) (Nat.le_refl _) _⟩
  · by_cases h2:x.2≤x.1
    · have HE:Hid (chk (-1) (pre++[x])=false):=by unfold Hid;rw [hsn.out];have h:¬x.1<x.2:=by omega
                                                  simp [okAt,h]
      gi_wp2
      exact ⟨Z,ze5 HZ2.out 0 _ (by omega) (fun h=>by have:=h.2;omega),rfl,bR2.set _,HE.out,hB2.out.setCell (p:=⟨w.heap.size,0,none⟩) (Nat.le_refl _) _⟩
    · by_cases h3:1125899906842624<x.2
      · have HE:Hid (chk (-1) (pre++[x])=false):=by unfold Hid;rw [hsn.out];have h:¬x.2≤1125899906842624:=by omega
                                                    simp [okAt,h]
        gi_wp2
        exact ⟨Z,ze5 HZ2.out 0 _ (by omega) (fun h=>by have:=h.2;omega),rfl,bR2.set _,HE.out,hB2.out.setCell (p:=⟨w.heap.size,0,none⟩) (Nat.le_refl _) _⟩
      · have HE:Hid (chk (-1) (pre++[x])=true):=by unfold Hid;rw [hsn.out,okAt_iff];omega
        gi_wp2
        refine ⟨Z,ze5 HZ2.out 0 _ (by omega) (fun h=>by have:=h.2;omega),bR2.other (by omega) _,?_,HE.out,hB2.out.setCell (p:=⟨w.heap.size+1,0,none⟩) (by simp) _⟩
        rw [hls.out];exact bL2.set _
 case done =>
  rintro D ys Z W hD hz rfl ⟨bR1,bL1,hp,hB1⟩ hK
  have cR:=bR1.cell
  have fR:=bR1.frozen
  have hE:Hid (errI ys=0):=by unfold Hid errI;rw [if_pos hp]
  clear hp bR bL bN hB0
  gi_wp2
  have hK':=(KeepsOthers.setCell W ⟨w.heap.size,0,none⟩ (.int .i64 0)).same D _ hK rfl
  refine ⟨by simp,.inl ⟨_,_,rfl,run_takeDeferred hK',?_⟩⟩
  have hc5:=(boxed_put (bR1.set (.int .i64 0)) (.deferred none) hK' rfl).cell
  refine ⟨.int .i64 0,?_,by rw [hE.out],(hB1.setCell (p:=⟨w.heap.size,0,none⟩) (by simp) _).trans (belowK_b (w:=w) (Nat.le_refl _) _ D _ _ (by omega) hK' rfl rfl)⟩
  simp [results,Try.f52,go_sem,hc5]
 case stop =>
  rintro D c pre Z W hD hz hpre ⟨rfl,bR1,hp,hB1⟩ hK
  have hE:Hid (errI ts=60):=by unfold Hid errI;rw [if_neg (by rw [chk_prefix hpre hp];decide)]
  gi_wp2
  refine ⟨by simp,.inl ⟨_,_,rfl,run_takeDeferred hK,?_⟩⟩
  have hc5:=(boxed_put bR1 (.deferred none) hK rfl).cell
  refine ⟨.int .i64 60,?_,by rw [hE.out],hB1.trans (belowK_b (w:=w) (Nat.le_refl _) W D _ _ (by omega) hK rfl rfl)⟩
  simp [results,Try.f52,go_sem,hc5]
end Go.Proofs.Ytkigcdmlkmcdcaa
