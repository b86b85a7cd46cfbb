/- GE: Base Recv Leaf. -/
import Derived.Test.YtkigcdmlkmcdcaaQZ
import Derived.Test.YtkigcdmlkmcdcaaQGD
import Derived.Test.YtkigcdmlkmcdcaaQGB
import Derived.Test.YtkigcdmlkmcdcaaQGA
import Derived.Laws.MakeOwn
import Derived.Laws.BytesArg
import Derived.ArgAppend
import Derived.ChangeOld
import Derived.Deep.RegionWith
import Derived.Deep.RegionHeld3
import Derived.Deep.RegionLaw
import Derived.Deep.DeepCutAuto
import Derived.Deep.QuietTactic
import Derived.BigQuiet
import Derived.Lib.Bytes
import Derived.Lib.AppendZeros
/- Bytes, pieces and receivers in memory: what came in, and what the call itself has made. -/
namespace Go.Proofs.Ytkigcdmlkmcdcaa
open Go.ChangeShapes Go.WideShapes Go.ChangeAt Go.RowKit
set_option linter.unusedVariables false
theorem zb1 (b o k:Nat):(⟨b,o,none⟩:Addr).add k=⟨b,o+k,none⟩:=by unfold Addr.add;split<;>simp_all
theorem Below.on {w w1 w2:World} (h:Below w.heap.size w w1) (h':Below w1.heap.size w1 w2):Below w.heap.size w w2:=h.trans (h'.mono h.size)
def I64 (x:Int):Prop:=-9223372036854775808≤x∧x≤9223372036854775807
def U32 (x:Int):Prop:=0≤x∧x≤4294967295
def Byts (bs:List Int):Prop:=∀ x∈bs,0≤x∧x≤255
theorem byts_take {b:List Int} (h:Byts b) (n:Nat):Byts (b.take n):=fun x hx=>h x (List.mem_of_mem_take hx)
theorem byts_drop {b:List Int} (h:Byts b) (n:Nat):Byts (b.drop n):=fun x hx=>h x (List.mem_of_mem_drop hx)
theorem zbv {a b:List Int} (ha:Byts a) (hb:Byts b):Byts (a++b):=fun x hx=>(List.mem_append.1 hx).elim (ha x) (hb x)
theorem Try.info5:(Try.prog.info? 5).map (fun i=>(i.zero,i.size,i.bytes))=some (some (.int .u8 0),1,1):=by kernel_rfl
theorem Try.infoPc:(Try.prog.info? 74).map (fun i=>(i.zero,i.size,i.bytes))=some (some (.agg #[.int .i64 0,.slice none 0 0]),2,32):=by kernel_rfl
def zak (w:World) (a:Option Addr) (bs:List Int):Prop :=
 bs.length≤140737488351232∧Byts bs∧∀ j,j<bs.length→∃ b o,a=some ⟨b,o,none⟩∧w.cell? ⟨b,o+j,none⟩=some (.int .u8 (bs[j]?.getD 0))
theorem zak.below {w w':World} {a:Option Addr} {bs:List Int} (h:zak w a bs) {B:Nat} (hb:Below B w w') (hB:w.heap.size≤B):zak w' a bs:=by
 refine ⟨h.1,h.2.1,fun j hj=>?_⟩
 obtain ⟨b,o,e,hc⟩:=h.2.2 j hj
 exact ⟨b,o,e,(hb.cell (p:=⟨b,o+j,none⟩) (by have:=zac hc;omega)).trans hc⟩
theorem zak.alloc {w:World} {a:Option Addr} {bs:List Int} (h:zak w a bs) (o:Obj):zak (w.alloc o) a bs :=
 h.below ((Below.refl _ w).alloc (Nat.le_refl _) o) (Nat.le_refl _)
theorem zak.later {w w':World} {a:Option Addr} {bs:List Int} (h:zak w a bs) (hb:Below w.heap.size w w'):zak w' a bs:=h.below hb (Nat.le_refl _)
theorem zak.nil0 {w:World} {bs:List Int} (h:zak w none bs):bs=[]:=by
 cases bs with
 | nil=>rfl
 | cons a r=>obtain ⟨_,_,e,_⟩:=h.2.2 0 (by simp);cases e
theorem zak.nil (w:World) (a:Option Addr):zak w a []:=⟨by simp,fun x hx=>by simp at hx,fun j hj=>by simp at hj⟩
theorem ints_one (k:IntKind) (zs:List Int):∀ u∈zs.map (Value.int k),u.oneCell'=true:=by
 intro u hu
 simp only [List.mem_map] at hu
 obtain ⟨x,_,rfl⟩:=hu
 rfl
theorem news_all {w:World} {x:Addr} {bs:List Int} (h:zak w (some x) bs):∀ j u,(bs.map (Value.int .u8))[j]? = some u→w.cell? (x.add j)=some u:=by
 intro j u hj
 have hjl:j<bs.length:=by
  rcases Nat.lt_or_ge j bs.length with h|h
  · exact h
  · rw [List.getElem?_eq_none (by simpa using h)] at hj;cases hj
 obtain ⟨b,o,e,hc⟩:=h.2.2 j hjl
 cases e
 rw [zb1,hc]
 simpa [hjl] using hj
def Row (w:World) (B:Nat) (va:Option Addr) (L vc:Nat) (bs:List Int):Prop :=
 w.ownsRow B 5 1 (.slice va L vc) L (bs.map (Value.int .u8))
theorem Row.len {w:World} {B:Nat} {va:Option Addr} {L vc:Nat} {bs:List Int} (h:Row w B va L vc bs):bs.length=L:=by
 have:=h.1;simpa using this
theorem Row.nil0 {w:World} {B:Nat} {va:Option Addr} {L vc:Nat} {bs:List Int} (h:Row w B va L vc bs):va=none→vc=0:=by
 intro e
 rcases h.2 with ⟨e',_⟩|⟨g,cap,cur,e',_⟩
 · cases e';rfl
 · cases e';cases e
theorem Row.at {w:World} {B:Nat} {va:Option Addr} {L vc:Nat} {bs:List Int} (h:Row w B va L vc bs):va=none∨∃ g,va=some ⟨g,0,none⟩∧B≤g∧g<w.heap.size∧∃ cur,w.heap[g]? = some (.cells cur 5 (0,0)):=by
 rcases h.2 with ⟨e',_⟩|⟨g,cap,cur,e',hb,hh,_⟩
 · cases e';exact .inl rfl
 · cases e';exact .inr ⟨g,rfl,hb,(Array.getElem?_eq_some_iff.1 hh).1,cur,hh⟩
theorem Row.below {w w':World} {B:Nat} {va:Option Addr} {L vc:Nat} {bs:List Int} (h:Row w B va L vc bs) {n:Nat} (hb:Below n w w') (hn:w.heap.size≤n):Row w' B va L vc bs:=by
 refine ⟨h.1,?_⟩
 rcases h.2 with h'|⟨g,c,cur,e,hB,hh,r⟩
 · exact .inl h'
 · exact .inr ⟨g,c,cur,e,hB,(hb.block g (by have:=(Array.getElem?_eq_some_iff.1 hh).1;omega)).trans hh,r⟩
theorem Row.later {w w':World} {B:Nat} {va:Option Addr} {L vc:Nat} {bs:List Int} (h:Row w B va L vc bs) (hb:Below w.heap.size w w'):Row w' B va L vc bs:=h.below hb (Nat.le_refl _)
theorem Row.mono {w:World} {B B':Nat} {va:Option Addr} {L vc:Nat} {bs:List Int} (h:Row w B va L vc bs) (hb:B'≤B):Row w B' va L vc bs:=by
 refine ⟨h.1,?_⟩
 rcases h.2 with h'|⟨g,c,cur,e,hB,r⟩
 · exact .inl h'
 · exact .inr ⟨g,c,cur,e,by omega,r⟩
theorem Row.cell {w:World} {B g L vc:Nat} {bs:List Int} (h:Row w B (some ⟨g,0,none⟩) L vc bs) (j:Nat) (hj:j<L):w.cell? ⟨g,j,none⟩=some (.int .u8 (bs[j]?.getD 0)):=by
 rw [World.ownsRow.cellAt h j (by omega)]
 have hl:=h.len
 simp [show j<bs.length by omega]
theorem Row.frozen {w:World} {B g L vc:Nat} {bs:List Int} (h:Row w B (some ⟨g,0,none⟩) L vc bs) (j:Nat):w.frozen? ⟨g,j,none⟩=false:=World.ownsRow.frozenAt h j
theorem Row.bytes {w:World} {B:Nat} {va:Option Addr} {L vc:Nat} {bs:List Int} (h:Row w B va L vc bs) (hb:Byts bs) (hm:bs.length≤140737488351232):zak w va bs:=by
 have hl:=h.len
 refine ⟨hm,hb,fun j hj=>?_⟩
 rcases h.at with rfl|⟨g,rfl,_⟩
 · rcases h.2 with ⟨e,h0⟩|⟨g,cap,cur,e,_⟩
   · omega
   · cases e
 · exact ⟨g,0,rfl,by rw [Nat.zero_add];exact h.cell j (by omega)⟩
theorem row_of {w:World} {B n:Nat} {v:Value} {bs:List Int} (h:w.ownsRow B 5 1 v n (bs.map (Value.int .u8))):∃ va vc,v=.slice va n vc∧Row w B va n vc bs:=by
 rcases h.2 with ⟨rfl,h0⟩|⟨g,c,cur,rfl,r⟩
 · subst h0
   exact ⟨none,0,rfl,h⟩
 · exact ⟨_,_,rfl,h⟩
theorem zc6 (w:World) (B:Nat) (hB:B≤w.heap.size):Row (w.alloc (.cells #[] 5)) B (some ⟨w.heap.size,0,none⟩) 0 0 [] :=
 ⟨rfl,.inr ⟨_,0,#[],rfl,hB,heap_alloc_new w _,Nat.le_refl _,by simp [maxLen],rfl,rfl⟩⟩
theorem zhj (w:World) (B:Nat) (va:Option Addr) (L vc:Nat) (bs:List Int) (xa:Option Addr) (m xc:Nat) (news:List Int) (ty:TypeId) (hR:Row w B va L vc bs) (hn:zak w xa news) (hl:news.length=m) (h0:xa=none→xc=0) (hb:L+m≤140737488355328) (hB:B≤w.heap.size) :
 ∃ va' vc' w',(Builtin.append_ #[22,22] ty #[.slice va L vc,.slice xa m xc]).run Try.prog w=.ok (.slice va' (L+m) vc') w'∧Row w' B va' (L+m) vc' (bs++news)∧Below B w w'∧w.grownBy w' (Value.ownBlock (.slice va L vc)):=by
 obtain ⟨i0,hi,hz0,hz1,hz2⟩:=info_parts Try.info5
 cases xa with
 | none =>
  obtain rfl:=h0 rfl
  obtain rfl:=hn.nil0
  subst hl
  refine ⟨va,vc,w,run_append_owned_none w B 22 ty 5 i0 1 Try.underlying22 hi _ L _ hR,by rw [List.append_nil];exact hR,Below.refl _ _,⟨rfl,rfl,rfl,Nat.le_refl _,fun _ _ _=>rfl⟩⟩
 | some x =>
  obtain ⟨v',w',hr,h2,h3,_⟩:=run_append_own (P:=Try.prog) w B 22 ty 5 i0 (.int .u8 0) 1 1 Try.underlying22 hi hz0 hz1 hz2 rfl (by decide) _ L _ hR x m xc (news.map (Value.int .u8)) (by simp [hl]) (news_all hn) (ints_one _ _) (by unfold maxLen;omega) (by omega) hB
  rw [← List.map_append] at h2
  obtain ⟨va',vc',rfl,hR'⟩:=row_of h2
  exact ⟨va',vc',w',hr,hR',za4 (Below.refl _ w) hB hR h3,h3⟩
theorem Row.of_heap {w w':World} {B:Nat} {va:Option Addr} {L vc:Nat} {bs:List Int} (h:Row w B va L vc bs) (e:w'.heap=w.heap):Row w' B va L vc bs:=by
 refine ⟨h.1,?_⟩
 rw [e]
 exact h.2
theorem zak.of_heap {w w':World} {a:Option Addr} {bs:List Int} (h:zak w a bs) (e:w'.heap=w.heap):zak w' a bs:=by
 refine ⟨h.1,h.2.1,fun j hj=>?_⟩
 obtain ⟨b,o,ea,hc⟩:=h.2.2 j hj
 refine ⟨b,o,ea,?_⟩
 rw [← hc]
 unfold World.cell?
 rw [e]
theorem Row.aside {w:World} {B:Nat} {va:Option Addr} {L vc:Nat} {bs:List Int} (h:Row w B va L vc bs) (p:Addr) (u:Value) (hp:p.block<B):Row (w.setCell p u) B va L vc bs:=by
 refine ⟨h.1,?_⟩
 rcases h.2 with h'|⟨g,c,cur,e,hB,hh,r⟩
 · exact .inl h'
 · exact .inr ⟨g,c,cur,e,hB,(Below.heap_setCell w p u g (by omega)).trans hh,r⟩
theorem Row.max {w:World} {B:Nat} {va:Option Addr} {L vc:Nat} {bs:List Int} (h:Row w B va L vc bs):L≤vc∧vc≤maxLen:=by
 rcases h.2 with ⟨e,h0⟩|⟨g,cap,cur,e,hg,hh,hc,hm,hsz,ht⟩
 · cases e;exact ⟨by omega,by simp [maxLen]⟩
 · cases e;exact ⟨hc,hm⟩
theorem zaa {a w:World} (h:Below a.heap.size a w) (o:Obj):Below a.heap.size a (w.alloc o):=h.alloc h.size o
def SlAt (w:World) (a:Option Addr) (c:Nat) (bs:List Int):Prop:=zak w a bs∧(a=none→c=0)∧bs.length≤c
theorem SlAt.later {w w':World} {a:Option Addr} {c:Nat} {bs:List Int} (h:SlAt w a c bs) (hb:Below w.heap.size w w'):SlAt w' a c bs:=⟨h.1.later hb,h.2⟩
theorem SlAt.below {w w':World} {a:Option Addr} {c:Nat} {bs:List Int} (h:SlAt w a c bs) {B:Nat} (hb:Below B w w') (hB:w.heap.size≤B):SlAt w' a c bs:=⟨h.1.below hb hB,h.2⟩
theorem SlAt.nil (w:World):SlAt w none 0 []:=⟨zak.nil _ _,fun _=>rfl,by simp⟩
theorem Row.sl {w:World} {B:Nat} {va:Option Addr} {L vc:Nat} {bs:List Int} (h:Row w B va L vc bs) (hb:Byts bs) (hm:bs.length≤140737488351232):SlAt w va vc bs :=
 ⟨h.bytes hb hm,h.nil0,by rw [h.len];exact h.max.1⟩
theorem zak.take {w:World} {a:Option Addr} {bs:List Int} (h:zak w a bs) (k:Nat):zak w a (bs.take k):=by
 refine ⟨by have:=h.1;rw [List.length_take];omega,byts_take h.2.1 k,fun j hj=>?_⟩
 rw [List.length_take] at hj
 obtain ⟨b,o,e,hc⟩:=h.2.2 j (by omega)
 exact ⟨b,o,e,by rw [hc,List.getElem?_take_of_lt (by omega)]⟩
def cutB (a:Option Addr) (m k:Nat):Option Addr:=if m=k then a else a.map (·.add (k*1))
theorem cutB_none {a:Option Addr} {m k:Nat} (h:a=none→m=0):cutB a m k=none→m-k=0:=by
 intro e
 unfold cutB at e
 split at e
 · have:=h e;omega
 · cases a with
   | none=>have:=h rfl;omega
   | some x=>cases e
theorem zak.drop {w:World} {a:Option Addr} {bs:List Int} (h:zak w a bs) (k m:Nat) (hm:bs.length≤m):zak w (cutB a m k) (bs.drop k):=by
 refine ⟨by have:=h.1;rw [List.length_drop];omega,byts_drop h.2.1 k,fun j hj=>?_⟩
 rw [List.length_drop] at hj
 obtain ⟨b,o,rfl,hc⟩:=h.2.2 (k+j) (by omega)
 refine ⟨b,o+k,?_,?_⟩
 · rw [cutB,if_neg (by omega),Option.map_some,zb1,Nat.mul_one]
 · rw [Nat.add_assoc,hc,List.getElem?_drop]
theorem elemB:Try.prog.elem 22=5:=by kernel_rfl
theorem underB:Try.prog.underlying 22=some (.slice (Try.prog.elem 22)):=by rw [elemB];exact Try.underlying22
theorem sizeB (w:World):(sizeOf (Try.prog.elem 22)).run Try.prog w=.ok 1 w:=by kernel_rfl
theorem sl_lh (a:Option Addr) (n c f t:Nat) (fi ti:Int) (hf:fi=(f:Int)) (ht:ti=(t:Int)) (h:f≤t) (h2:t≤c) (w:World) :
 (Instr.slice 22 (.slice a n c) (some (.int .i64 fi)) (some (.int .i64 ti)) none).run Try.prog w=.ok (.slice (cutB a c f) (t-f) (c-f)) w:=by
 subst hf;subst ht
 rw [run_slice_lh w 22 a n c underB .i64 .i64 f t (by omega) (by omega) (by omega),sizeB]
 simp [cutB,sliced]
theorem sl_l (a:Option Addr) (n c f:Nat) (fi:Int) (hf:fi=(f:Int)) (h:f≤n) (w:World) :
 (Instr.slice 22 (.slice a n c) (some (.int .i64 fi)) none none).run Try.prog w=.ok (.slice (cutB a c f) (n-f) (c-f)) w:=by
 subst hf
 rw [run_slice_l w 22 a n c underB .i64 f (by omega) (by omega),sizeB]
 simp [cutB,sliced]
theorem sl_h (a:Option Addr) (n c t:Nat) (ti:Int) (ht:ti=(t:Int)) (h2:t≤c) (w:World) :
 (Instr.slice 22 (.slice a n c) none (some (.int .i64 ti)) none).run Try.prog w=.ok (.slice a t c) w:=by
 subst ht
 rw [run_slice_h w 22 a n c underB .i64 t (by omega) (by omega),sizeB]
 cases a with
 | none=>simp [sliced]
 | some x=>simp [sliced,Addr.add]
theorem SlAt.cut2 {w:World} {a:Option Addr} {c:Nat} {bs:List Int} (h:SlAt w a c bs) (f t:Nat) (hf:f≤t) (ht:t≤bs.length):SlAt w (cutB a c f) (c-f) ((bs.take t).drop f)∧((bs.take t).drop f).length=t-f:=by
 have hl:(bs.take t).length=t:=by rw [List.length_take];omega
 have hc:=h.2.2
 refine ⟨⟨(h.1.take t).drop f c (by omega),cutB_none h.2.1,by rw [List.length_drop,hl];omega⟩,by rw [List.length_drop,hl]⟩
theorem SlAt.drop {w:World} {a:Option Addr} {c:Nat} {bs:List Int} (h:SlAt w a c bs) (f:Nat):SlAt w (cutB a c f) (c-f) (bs.drop f):=by
 have hc:=h.2.2
 exact ⟨h.1.drop f c (by omega),cutB_none h.2.1,by rw [List.length_drop];omega⟩
theorem SlAt.take {w:World} {a:Option Addr} {c:Nat} {bs:List Int} (h:SlAt w a c bs) (t:Nat):SlAt w a c (bs.take t):=by
 have hc:=h.2.2
 exact ⟨h.1.take t,h.2.1,by rw [List.length_take];omega⟩
theorem list_app {w:World} {ops:Array Oper} {rest:List Oper} {o:Oper} {a:Act} {Q:Exit→Act→World→Prop} (hgd:o.guard=none) (s x:Operand)
 (ho:o.op=.call { callee:=.builtin .append,args:=#[s,x],argTypes:=#[22,22]})
 (B:Nat) (va:Option Addr) (L vc:Nat) (bs:List Int) (xa:Option Addr) (m xc:Nat) (news:List Int) (hs:a.eval s=.slice va L vc) (hx:a.eval x=.slice xa m xc)
 (hR:Row w B va L vc bs) (hn:zak w xa news) (hl:news.length=m) (h0:xa=none→xc=0) (hb:L+m≤140737488355328) (hB:B≤w.heap.size)
 (h:∀ va' vc' w',Row w' B va' (L+m) vc' (bs++news)→Below B w w'→w.grownBy w' (Value.ownBlock (.slice va L vc))→wpList Try.prog ops Q rest (a.put o.dst (.slice va' (L+m) vc')) w'):wpList Try.prog ops Q (o::rest) a w :=
 wpList_plain hgd fun K hK=>by
  obtain ⟨va',vc',w',hr,h1,h2,h3⟩:=zhj w B va L vc bs xa m xc news o.type hR hn hl h0 hb hB
  unfold Oper.wp execOp
  simp only [ho,resolve,invoke,builtin,Sem.run_bind,Sem.run_pure,Result.andThen_ok,List.map_toArray,List.map_cons,List.map_nil,hs,hx,hr]
  exact hK _ _ (h va' vc' w' h1 h2 h3)
theorem list_app0 {w:World} {ops:Array Oper} {rest:List Oper} {o:Oper} {a:Act} {Q:Exit→Act→World→Prop} (hgd:o.guard=none) (s x:Operand)
 (ho:o.op=.call { callee:=.builtin .append,args:=#[s,x],argTypes:=#[22,22]})
 (B:Nat) (va:Option Addr) (vc:Nat) (xa:Option Addr) (m xc:Nat) (news:List Int) (hs:a.eval s=.slice va 0 vc) (hx:a.eval x=.slice xa m xc)
 (hR:Row w B va 0 vc []) (hn:zak w xa news) (hl:news.length=m) (h0:xa=none→xc=0) (hb:m≤140737488355328) (hB:B≤w.heap.size)
 (h:∀ va' vc' w',Row w' B va' m vc' news→Below B w w'→wpList Try.prog ops Q rest (a.put o.dst (.slice va' m vc')) w'):wpList Try.prog ops Q (o::rest) a w :=
 list_app hgd s x ho B va 0 vc [] xa m xc news hs hx hR hn hl h0 (by omega) hB (fun va' vc' w' h1 h2 h3=>by
  have hz:0+m=m:=Nat.zero_add m
  rw [hz] at h1 ⊢
  exact h va' vc' w' (by simpa using h1) h2)
theorem zd8 {w:World} {ops:Array Oper} {o:Oper} {a:Act} {K:Act→World→Prop} {Q:Exit→Act→World→Prop} {E:Prop} (hgd:o.guard=none) (s x:Operand)
 (ho:o.op=.call { callee:=.builtin .append,args:=#[s,x],argTypes:=#[22,22]})
 (B:Nat) (va:Option Addr) (L vc:Nat) (bs:List Int) (xa:Option Addr) (m xc:Nat) (news:List Int) (hs:a.eval s=.slice va L vc) (hx:a.eval x=.slice xa m xc)
 (hR:Row w B va L vc bs) (hn:zak w xa news) (hl:news.length=m) (h0:xa=none→xc=0) (hb:L+m≤140737488355328) (hB:B≤w.heap.size)
 (h:∀ va' vc' w',Row w' B va' (L+m) vc' (bs++news)→Below B w w'→w.grownBy w' (Value.ownBlock (.slice va L vc))→K (a.put o.dst (.slice va' (L+m) vc')) w') :
 if Region.wanted o (yielded ops a.tmps)=true then Oper.wp Try.prog o a w K Q else E:=by
 have hw:Region.wanted o (yielded ops a.tmps)=true:=by simp [Region.wanted,hgd]
 rw [if_pos hw]
 obtain ⟨va',vc',w',hr,h1,h2,h3⟩:=zhj w B va L vc bs xa m xc news o.type hR hn hl h0 hb hB
 unfold Oper.wp execOp
 simp only [ho,resolve,invoke,builtin,Sem.run_bind,Sem.run_pure,Result.andThen_ok,List.map_toArray,List.map_cons,List.map_nil,hs,hx,hr]
 exact h va' vc' w' h1 h2 h3
theorem step_app0 {w:World} {ops:Array Oper} {o:Oper} {a:Act} {K:Act→World→Prop} {Q:Exit→Act→World→Prop} {E:Prop} (hgd:o.guard=none) (s x:Operand)
 (ho:o.op=.call { callee:=.builtin .append,args:=#[s,x],argTypes:=#[22,22]})
 (B:Nat) (va:Option Addr) (vc:Nat) (xa:Option Addr) (m xc:Nat) (news:List Int) (hs:a.eval s=.slice va 0 vc) (hx:a.eval x=.slice xa m xc)
 (hR:Row w B va 0 vc []) (hn:zak w xa news) (hl:news.length=m) (h0:xa=none→xc=0) (hb:m≤140737488355328) (hB:B≤w.heap.size)
 (h:∀ va' vc' w',Row w' B va' m vc' news→Below B w w'→K (a.put o.dst (.slice va' m vc')) w') :
 if Region.wanted o (yielded ops a.tmps)=true then Oper.wp Try.prog o a w K Q else E :=
 zd8 hgd s x ho B va 0 vc [] xa m xc news hs hx hR hn hl h0 (by omega) hB (fun va' vc' w' h1 h2 h3=>by
  have hz:0+m=m:=Nat.zero_add m
  rw [hz] at h1 ⊢
  exact h va' vc' w' (by simpa using h1) h2)
theorem conv0 (a:Option Addr) (c:Nat) (w:World):(convert 22 9 (.slice a 0 c)).run Try.prog w=.ok (.string ByteArray.empty) w:=by
 cases a<;>kernel_rfl
theorem zhf (a:Option Addr) (c:Nat) (xs:List Int) (w:World) (h:zak w a xs):(convert 22 9 (.slice a xs.length c)).run Try.prog w=.ok (.string (strOfNums xs)) w:=by
 by_cases h0:0<xs.length
 · obtain ⟨b1,o1,rfl,_⟩:=h.2.2 0 h0
   exact run_convert_bytes_arg (P:=Try.prog) w 22 5 Try.underlying22 Try.underlying5 b1 o1 xs.length c xs rfl (fun i hi=>by
    obtain ⟨_,_,e,hc⟩:=h.2.2 i hi
    cases e;simpa using hc) 9 Try.underlying9
 · obtain rfl:xs=[]:=List.eq_nil_of_length_eq_zero (by omega)
   exact conv0 a c w
theorem str_inj {xs ys:List Int} (hx:Byts xs) (hy:Byts ys):((strOfNums xs).toList==(strOfNums ys).toList)=decide (xs=ys):=by
 rw [Lib.strOfNums_toList,Lib.strOfNums_toList]
 rw [Bool.eq_iff_iff,beq_iff_eq,decide_eq_true_iff]
 unfold Lib.bytesOf
 refine ⟨fun h=>?_,fun h=>by rw [h]⟩
 have h':=h
 clear h
 induction xs generalizing ys with
 | nil=>cases ys with
  | nil=>rfl
  | cons b s=>simp at h'
 | cons a r ih=>cases ys with
  | nil=>simp at h'
  | cons b s =>
   simp only [List.map_cons,List.cons.injEq] at h'
   have ha:=hx a (by simp)
   have hb:=hy b (by simp)
   have e:a.toNat=b.toNat:=by
    have:=congrArg UInt8.toNat h'.1
    simp at this
    omega
   rw [ih (fun x h=>hx x (by simp [h])) (fun x h=>hy x (by simp [h])) h'.2,show a=b by omega]
structure En where
 f:Int
 a:Option Addr
 c:Nat
 bs:List Int
def En.pc (x:En):Pl.Pc:=(x.f,x.bs)
def e0:En:=⟨0,none,0,[]⟩
def zbb (es:List En):List Value:=es.flatMap fun x=>[Value.int .i64 x.f,Value.slice x.a x.bs.length x.c]
def En.ok (w:World) (x:En):Prop:=SlAt w x.a x.c x.bs∧I64 x.f
theorem En.ok.below {w w':World} {x:En} (h:x.ok w) {B:Nat} (hb:Below B w w') (hB:w.heap.size≤B):x.ok w':=⟨h.1.below hb hB,h.2⟩
theorem En.ok.later {w w':World} {x:En} (h:x.ok w) (hb:Below w.heap.size w w'):x.ok w':=h.below hb (Nat.le_refl _)
def za5 (w:World) (A:Option Addr) (es:List En):Prop :=
 ∀ j x,es[j]? = some x→∃ b o,A=some ⟨b,o,none⟩∧w.cell? ⟨b,o+j*2,none⟩=some (.int .i64 x.f)∧w.cell? ⟨b,o+j*2+1,none⟩=some (.slice x.a x.bs.length x.c)
theorem za5.below {w w':World} {A:Option Addr} {es:List En} (h:za5 w A es) {B:Nat} (hb:Below B w w') (hB:w.heap.size≤B):za5 w' A es:=fun j x hj=>by
 obtain ⟨b,o,e,hc,hd⟩:=h j x hj
 exact ⟨b,o,e,(hb.cell (p:=⟨b,o+j*2,none⟩) (by have:=zac hc;omega)).trans hc,(hb.cell (p:=⟨b,o+j*2+1,none⟩) (by have:=zac hd;omega)).trans hd⟩
theorem za5.later {w w':World} {A:Option Addr} {es:List En} (h:za5 w A es) (hb:Below w.heap.size w w'):za5 w' A es:=h.below hb (Nat.le_refl _)
theorem za5.of_heap {w w':World} {A:Option Addr} {es:List En} (h:za5 w A es) (e:w'.heap=w.heap):za5 w' A es:=fun j x hj=>by
 obtain ⟨b,o,ea,hc,hd⟩:=h j x hj
 refine ⟨b,o,ea,?_,?_⟩
 · rw [← hc];unfold World.cell?;rw [e]
 · rw [← hd];unfold World.cell?;rw [e]
theorem za5.alloc {w:World} {A:Option Addr} {es:List En} (h:za5 w A es) (o:Obj):za5 (w.alloc o) A es:=h.below ((Below.refl _ w).alloc (Nat.le_refl _) o) (Nat.le_refl _)
theorem za5.take {w:World} {a:Option Addr} {es:List En} (h:za5 w a es) (k:Nat):za5 w a (es.take k):=fun j x hj=>by
 refine h j x ?_
 rw [List.getElem?_take] at hj
 split at hj
 · exact hj
 · cases hj
structure PcsAt (w:World) (A:Option Addr) (c:Nat) (es:List En):Prop where
 reach:es.length*32≤140737488351232
 cap:es.length≤c
 max:c≤maxLen
 nil:A=none→c=0
 ents:za5 w A es
 ok:∀ x∈es,x.ok w
theorem PcsAt.below {w w':World} {A:Option Addr} {c:Nat} {es:List En} (h:PcsAt w A c es) {B:Nat} (hb:Below B w w') (hB:w.heap.size≤B):PcsAt w' A c es :=
 { h with ents:=h.ents.below hb hB,ok:=fun x hx=>(h.ok x hx).below hb hB}
theorem PcsAt.later {w w':World} {A:Option Addr} {c:Nat} {es:List En} (h:PcsAt w A c es) (hb:Below w.heap.size w w'):PcsAt w' A c es:=h.below hb (Nat.le_refl _)
theorem PcsAt.nil' (w:World):PcsAt w none 0 []:=⟨by simp,by simp,by simp [maxLen],fun _=>rfl,fun j x h=>by simp at h,fun x h=>by simp at h⟩
theorem PcsAt.get {w:World} {A:Option Addr} {c:Nat} {es:List En} (h:PcsAt w A c es) (j:Nat) (hj:j<es.length) :
 ∃ (b o:Nat) (x:En),A=some ⟨b,o,none⟩∧es[j]? = some x∧x.ok w∧w.cell? ⟨b,o+j*2,none⟩=some (.int .i64 x.f)∧w.cell? ⟨b,o+j*2+1,none⟩=some (.slice x.a x.bs.length x.c):=by
 obtain ⟨b,o,e,hc,hd⟩:=h.ents j es[j] (List.getElem?_eq_getElem hj)
 exact ⟨b,o,es[j],e,List.getElem?_eq_getElem hj,h.ok _ (List.getElem_mem hj),hc,hd⟩
theorem zcw (a:En) (r:List En):zbb (a::r)=Value.int .i64 a.f::Value.slice a.a a.bs.length a.c::zbb r:=rfl
theorem zev (es:List En):(zbb es).length=es.length*2:=by
 induction es with
 | nil=>rfl
 | cons a r ih=>rw [zcw];simp only [List.length_cons,ih];omega
theorem zhe (l r:List En):zbb (l++r)=zbb l++zbb r:=by simp [zbb]
theorem ecells_snoc (l:List En) (x:En):zbb (l++[x])=zbb l++[.int .i64 x.f,.slice x.a x.bs.length x.c]:=by simp [zbb]
theorem zeh:∀ (l:List En) (j:Nat) (x:En),l[j]? = some x→(zbb l)[j*2]? = some (.int .i64 x.f)∧(zbb l)[j*2+1]? = some (.slice x.a x.bs.length x.c)
 | [],j,x,h=>by simp at h
 | a::r,0,x,h=>by simp at h;subst h;simp [zbb]
 | a::r,j+1,x,h=>by
  have ih:=zeh r j x (by simpa using h)
  rw [zcw,show (j+1)*2=j*2+1+1 from by omega]
  simpa using ih
theorem zgk (l:List En):∀ u∈zbb l,u.oneCell'=true:=by
 intro u hu
 simp only [zbb,List.mem_flatMap] at hu
 obtain ⟨x,_,hu⟩:=hu
 simp only [List.mem_cons,List.not_mem_nil,or_false] at hu
 rcases hu with rfl|rfl<;>rfl
theorem zgj:∀ (l:List En) (j:Nat) (x y:En),l[j]? = some x→y.f=x.f→zbb (l.set j y)=(zbb l).set (j*2+1) (.slice y.a y.bs.length y.c)
 | [],j,x,y,h,_=>by simp at h
 | a::r,0,x,y,h,e=>by simp at h;subst h;simp [zbb,e]
 | a::r,j+1,x,y,h,e=>by
  rw [List.set_cons_succ,zcw,zcw,zgj r j x y (by simpa using h) e,show (j+1)*2+1=(j*2+1)+1+1 from by omega]
  simp
theorem za5.news {w:World} {A:Addr} {es:List En} (h:za5 w (some A) es):∀ j u,(zbb es)[j]? = some u→w.cell? (A.add j)=some u:=by
 intro j u hj
 have hjl:j<es.length*2:=by
  rcases Nat.lt_or_ge j (es.length*2) with h|h
  · exact h
  · rw [List.getElem?_eq_none (by rw [zev];exact h)] at hj;cases hj
 have hx:es[j / 2]? = some es[j / 2]:=List.getElem?_eq_getElem (by omega)
 obtain ⟨b,o,e,hc,hd⟩:=h (j / 2) _ hx
 cases e
 rw [zb1]
 have hat:=zeh es (j / 2) _ hx
 rcases Nat.mod_two_eq_zero_or_one j with h0|h0
 · have ej:j / 2*2=j:=by omega
   rw [ej] at hc hat
   rw [hc,← hat.1];exact hj
 · have ej:j / 2*2+1=j:=by omega
   rw [show o+j / 2*2+1=o+(j / 2*2+1) from by omega,ej] at hd
   rw [ej] at hat
   rw [hd,← hat.2];exact hj
def RowE (w:World) (B:Nat) (va:Option Addr) (L vc:Nat) (es:List En):Prop :=
 w.ownsRow B 74 2 (.slice va L vc) L (zbb es)
theorem RowE.nil (w:World) (B:Nat):RowE w B none 0 0 []:=World.ownsRow_nil _ _ _ _
theorem RowE.len {w:World} {B:Nat} {va:Option Addr} {L vc:Nat} {es:List En} (h:RowE w B va L vc es):es.length=L:=by
 have:=h.1;rw [zev] at this;omega
theorem RowE.max {w:World} {B:Nat} {va:Option Addr} {L vc:Nat} {es:List En} (h:RowE w B va L vc es):L≤vc∧vc≤maxLen:=by
 rcases h.2 with ⟨e,h0⟩|⟨g,cap,cur,e,hg,hh,hc,hm,hsz,ht⟩
 · cases e;exact ⟨by omega,by simp [maxLen]⟩
 · cases e;exact ⟨hc,hm⟩
theorem RowE.nil0 {w:World} {B:Nat} {va:Option Addr} {L vc:Nat} {es:List En} (h:RowE w B va L vc es):va=none→vc=0:=by
 intro e
 rcases h.2 with ⟨e',_⟩|⟨g,cap,cur,e',_⟩
 · cases e';rfl
 · cases e';cases e
theorem RowE.at {w:World} {B:Nat} {va:Option Addr} {L vc:Nat} {es:List En} (h:RowE w B va L vc es):va=none∨∃ g,va=some ⟨g,0,none⟩∧B≤g∧g<w.heap.size∧∃ cur,w.heap[g]? = some (.cells cur 74 (0,0)):=by
 rcases h.2 with ⟨e',_⟩|⟨g,cap,cur,e',hb,hh,_⟩
 · cases e';exact .inl rfl
 · cases e';exact .inr ⟨g,rfl,hb,(Array.getElem?_eq_some_iff.1 hh).1,cur,hh⟩
theorem RowE.ents {w:World} {B:Nat} {va:Option Addr} {L vc:Nat} {es:List En} (h:RowE w B va L vc es):za5 w va es:=fun j x hj=>by
 have hL:=h.len
 have hjl:j<es.length:=by
  rcases Nat.lt_or_ge j es.length with h|h
  · exact h
  · rw [List.getElem?_eq_none h] at hj;cases hj
 rcases h.at with rfl|⟨g,rfl,_⟩
 · rcases h.2 with ⟨e,h0⟩|⟨g,cap,cur,e,_⟩
   · omega
   · cases e
 · have hat:=zeh es j x hj
   refine ⟨g,0,rfl,?_,?_⟩
   · rw [Nat.zero_add,World.ownsRow.cellAt h (j*2) (by omega)];exact hat.1
   · rw [Nat.zero_add,World.ownsRow.cellAt h (j*2+1) (by omega)];exact hat.2
theorem RowE.below {w w':World} {B:Nat} {va:Option Addr} {L vc:Nat} {es:List En} (h:RowE w B va L vc es) {n:Nat} (hb:Below n w w') (hn:w.heap.size≤n):RowE w' B va L vc es:=by
 refine ⟨h.1,?_⟩
 rcases h.2 with h'|⟨g,c,cur,e,hB,hh,r⟩
 · exact .inl h'
 · exact .inr ⟨g,c,cur,e,hB,(hb.block g (by have:=(Array.getElem?_eq_some_iff.1 hh).1;omega)).trans hh,r⟩
theorem RowE.alloc {w:World} {B:Nat} {va:Option Addr} {L vc:Nat} {es:List En} (h:RowE w B va L vc es) (o:Obj):RowE (w.alloc o) B va L vc es:=World.ownsRow.alloc h o
theorem RowE.mono {w:World} {B B':Nat} {va:Option Addr} {L vc:Nat} {es:List En} (h:RowE w B va L vc es) (hb:B'≤B):RowE w B' va L vc es:=by
 refine ⟨h.1,?_⟩
 rcases h.2 with h'|⟨g,c,cur,e,hB,r⟩
 · exact .inl h'
 · exact .inr ⟨g,c,cur,e,by omega,r⟩
theorem rowE_of {w:World} {B n:Nat} {v:Value} {es:List En} (h:w.ownsRow B 74 2 v n (zbb es)):∃ va vc,v=.slice va n vc∧RowE w B va n vc es:=by
 rcases h.2 with ⟨rfl,h0⟩|⟨g,c,cur,rfl,r⟩
 · subst h0
   exact ⟨none,0,rfl,h⟩
 · exact ⟨_,_,rfl,h⟩
theorem rowE_empty (w:World) (B:Nat) (hB:B≤w.heap.size):RowE (w.alloc (.cells #[] 74)) B (some ⟨w.heap.size,0,none⟩) 0 0 [] :=
 ⟨rfl,.inr ⟨_,0,#[],rfl,hB,heap_alloc_new w _,Nat.le_refl _,by simp [maxLen],rfl,rfl⟩⟩
theorem zeg (w:World) (x:En):za5 (w.alloc (.cells #[.int .i64 x.f,.slice x.a x.bs.length x.c] 74)) (some ⟨w.heap.size,0,none⟩) [x]:=fun j y hj=>by
 have h1:j=0:=by
  rcases Nat.lt_or_ge j 1 with h|h
  · omega
  · rw [List.getElem?_eq_none (by simpa using h)] at hj;cases hj
 subst h1
 simp at hj
 subst hj
 refine ⟨_,_,rfl,?_,?_⟩
 · rw [World.cell?_alloc_at (w:=w) _ _ w.heap.size _ rfl];rfl
 · rw [World.cell?_alloc_at (w:=w) _ _ w.heap.size _ rfl];rfl
theorem zdp (w:World) (B:Nat) (va:Option Addr) (n vc:Nat) (xs:List En) (hO:RowE w B va n vc xs) (hB:B≤w.heap.size) (A:Option Addr) (m c:Nat) (l:List En) (ty:TypeId) (hT:za5 w A l) (hl:l.length=m) (hA:A=none→c=0) (hb:(n+m)*32≤140737488355328) :
 ∃ va' vc' w',(Builtin.append_ #[23,23] ty #[.slice va n vc,.slice A m c]).run Try.prog w=.ok (.slice va' (n+m) vc') w'∧RowE w' B va' (n+m) vc' (xs++l)∧w.grownBy w' (Value.slice va n vc).ownBlock∧Below B w w':=by
 obtain ⟨i0,hi,hz0,hz1,hz2⟩:=info_parts Try.infoPc
 subst hl
 cases A with
 | none =>
  have hc:=hA rfl
  have hl:l=[]:=by
   cases l with
   | nil=>rfl
   | cons a r=>obtain ⟨_,_,e,_⟩:=hT 0 a (by simp);cases e
  subst hc;subst hl
  refine ⟨va,vc,w,?_,by simpa using hO,⟨rfl,rfl,rfl,Nat.le_refl _,fun _ _ _=>rfl⟩,Below.refl _ _⟩
  exact run_append_owned_none (P:=Try.prog) (w:=w) B 23 ty 74 i0 2 Try.underlying23 hi _ n _ hO
 | some ad =>
  obtain ⟨v',w',hr,h1,h2,_⟩:=run_append_own (P:=Try.prog) w B 23 ty 74 i0 (.agg #[.int .i64 0,.slice none 0 0]) 2 32 Try.underlying23 hi hz0 hz1 hz2 rfl (by decide) _ n _ hO ad l.length c (zbb l) (by rw [zev]) hT.news (zgk l) (by unfold maxLen;omega) hb hB
  rw [← zhe] at h1
  obtain ⟨va',vc',rfl,hR⟩:=rowE_of h1
  exact ⟨va',vc',w',hr,hR,h2,za4 (Below.refl _ w) hB hO h2⟩
end Go.Proofs.Ytkigcdmlkmcdcaa
/- Receivers and segments in memory. -/
namespace Go.Proofs.Ytkigcdmlkmcdcaa
open Go.ChangeShapes Go.WideShapes Go.ChangeAt Go.RowKit
set_option linter.unusedVariables false
theorem zad {B:Nat} {a w:World} (h:Below B a w) (n:Nat):Below B a (w.drewN n):=h.trans ⟨rfl,rfl,rfl,Nat.le_refl _,fun _ _=>rfl⟩
theorem zar {B:Nat} {a w:World} (h:Below B a w) (g j:Nat) (u:Value) (hg:B≤g):Below B a (w.setCell ⟨g,j,none⟩ u):=h.setCell (p:=⟨g,j,none⟩) hg u
theorem Box.c15 {W:World} {g:Nat} {t:TypeId} {v0 v1 v2 v3 v4 v5 v6 v7 v8 v9 v10 v11 v12 v13 v14:Value} (h:Box W g t [v0,v1,v2,v3,v4,v5,v6,v7,v8,v9,v10,v11,v12,v13,v14]):W.cell? ⟨g,0,none⟩=some v0∧W.cell? ⟨g,1,none⟩=some v1∧W.cell? ⟨g,2,none⟩=some v2∧W.cell? ⟨g,3,none⟩=some v3∧W.cell? ⟨g,4,none⟩=some v4∧W.cell? ⟨g,5,none⟩=some v5∧W.cell? ⟨g,6,none⟩=some v6∧W.cell? ⟨g,7,none⟩=some v7∧W.cell? ⟨g,8,none⟩=some v8∧W.cell? ⟨g,9,none⟩=some v9∧W.cell? ⟨g,10,none⟩=some v10∧W.cell? ⟨g,11,none⟩=some v11∧W.cell? ⟨g,12,none⟩=some v12∧W.cell? ⟨g,13,none⟩=some v13∧W.cell? ⟨g,14,none⟩=some v14 :=
 ⟨h.cell 0 rfl,h.cell 1 rfl,h.cell 2 rfl,h.cell 3 rfl,h.cell 4 rfl,h.cell 5 rfl,h.cell 6 rfl,h.cell 7 rfl,h.cell 8 rfl,h.cell 9 rfl,h.cell 10 rfl,h.cell 11 rfl,h.cell 12 rfl,h.cell 13 rfl,h.cell 14 rfl⟩
theorem Box.f15 {W:World} {g:Nat} {t:TypeId} {cs:List Value} (h:Box W g t cs):W.frozen? ⟨g,0,none⟩=false∧W.frozen? ⟨g,1,none⟩=false∧W.frozen? ⟨g,2,none⟩=false∧W.frozen? ⟨g,3,none⟩=false∧W.frozen? ⟨g,4,none⟩=false∧W.frozen? ⟨g,5,none⟩=false∧W.frozen? ⟨g,6,none⟩=false∧W.frozen? ⟨g,7,none⟩=false∧W.frozen? ⟨g,8,none⟩=false∧W.frozen? ⟨g,9,none⟩=false∧W.frozen? ⟨g,10,none⟩=false∧W.frozen? ⟨g,11,none⟩=false∧W.frozen? ⟨g,12,none⟩=false∧W.frozen? ⟨g,13,none⟩=false∧W.frozen? ⟨g,14,none⟩=false :=
 ⟨h.frozen 0,h.frozen 1,h.frozen 2,h.frozen 3,h.frozen 4,h.frozen 5,h.frozen 6,h.frozen 7,h.frozen 8,h.frozen 9,h.frozen 10,h.frozen 11,h.frozen 12,h.frozen 13,h.frozen 14⟩
theorem run_box {t:TypeId} {fs} (hu:Try.prog.underlying t=some (.struct fs)) {cs:List Value} (hi:(Try.prog.info? t).map (·.size)=some cs.length) {w:World} {g:Nat} (hg:Box w g t cs):(loadVar t ⟨g,0,none⟩).run Try.prog w=.ok (.agg cs.toArray) w :=
 run_loadVar_row (P:=Try.prog) w g t t cs.toArray (0,0) _ hg hu rfl (by simpa using hi)
theorem size15:(Try.prog.info? 27).map (·.size)=some 15:=by kernel_rfl
theorem size15s:(Try.prog.info? 34).map (·.size)=some 15:=by kernel_rfl
theorem zdj {w:World} {g:Nat} {cs:List Value} (hl:cs.length=15) (hg:Box w g 27 cs):(loadVar 27 ⟨g,0,none⟩).run Try.prog w=.ok (.agg cs.toArray) w :=
 run_box Try.underlying27 (by rw [hl];exact size15) hg
theorem run_seg {w:World} {g:Nat} {cs:List Value} (hl:cs.length=15) (hg:Box w g 34 cs):(loadVar 34 ⟨g,0,none⟩).run Try.prog w=.ok (.agg cs.toArray) w :=
 run_box Try.underlying34 (by rw [hl];exact size15s) hg
theorem res_r {fn:Func} {p:Tmp} (h:fn.results=#[.cell p 27]) (tmps:Array Value) (w:World) (g:Nat) (cs:List Value) (hl:cs.length=15) (hp:tmps.getD p undef=.pointer (some ⟨g,0,none⟩)) (hg:Box w g 27 cs):(results fn tmps).run Try.prog w=.ok (.agg cs.toArray) w:=by
 have hp':tmps[p]?.getD undef=.pointer (some ⟨g,0,none⟩):=by simpa using hp
 simp [results,h,hp',asAddr,zdj hl hg]
theorem res_rt {fn:Func} {p u:Tmp} (h:fn.results=#[.cell p 27,.tmp u]) (tmps:Array Value) (w:World) (g:Nat) (cs:List Value) (hl:cs.length=15) (hp:tmps.getD p undef=.pointer (some ⟨g,0,none⟩)) (hg:Box w g 27 cs):(results fn tmps).run Try.prog w=.ok (.tuple #[.agg cs.toArray,tmps.getD u undef]) w:=by
 have hp':tmps[p]?.getD undef=.pointer (some ⟨g,0,none⟩):=by simpa using hp
 simp [results,h,hp',asAddr,zdj hl hg]
theorem res_rtt {fn:Func} {p u v:Tmp} (h:fn.results=#[.cell p 27,.tmp u,.tmp v]) (tmps:Array Value) (w:World) (g:Nat) (cs:List Value) (hl:cs.length=15) (hp:tmps.getD p undef=.pointer (some ⟨g,0,none⟩)) (hg:Box w g 27 cs):(results fn tmps).run Try.prog w=.ok (.tuple #[.agg cs.toArray,tmps.getD u undef,tmps.getD v undef]) w:=by
 have hp':tmps[p]?.getD undef=.pointer (some ⟨g,0,none⟩):=by simpa using hp
 simp [results,h,hp',asAddr,zdj hl hg]
theorem res_rs {fn:Func} {p q:Tmp} (h:fn.results=#[.cell p 27,.cell q 34]) (tmps:Array Value) (w:World) (g k:Nat) (cs ds:List Value) (hl:cs.length=15) (hd:ds.length=15) (hp:tmps.getD p undef=.pointer (some ⟨g,0,none⟩)) (hq:tmps.getD q undef=.pointer (some ⟨k,0,none⟩)) (hg:Box w g 27 cs) (hk:Box w k 34 ds):(results fn tmps).run Try.prog w=.ok (.tuple #[.agg cs.toArray,.agg ds.toArray]) w:=by
 have hp':tmps[p]?.getD undef=.pointer (some ⟨g,0,none⟩):=by simpa using hp
 have hq':tmps[q]?.getD undef=.pointer (some ⟨k,0,none⟩):=by simpa using hq
 simp [results,h,hp',hq',asAddr,zdj hl hg,run_seg hd hk]
theorem zcq {fn:Func} {p q u v:Tmp} (h:fn.results=#[.cell p 27,.cell q 34,.tmp u,.tmp v]) (tmps:Array Value) (w:World) (g k:Nat) (cs ds:List Value) (hl:cs.length=15) (hd:ds.length=15) (hp:tmps.getD p undef=.pointer (some ⟨g,0,none⟩)) (hq:tmps.getD q undef=.pointer (some ⟨k,0,none⟩)) (hg:Box w g 27 cs) (hk:Box w k 34 ds):(results fn tmps).run Try.prog w=.ok (.tuple #[.agg cs.toArray,.agg ds.toArray,tmps.getD u undef,tmps.getD v undef]) w:=by
 have hp':tmps[p]?.getD undef=.pointer (some ⟨g,0,none⟩):=by simpa using hp
 have hq':tmps[q]?.getD undef=.pointer (some ⟨k,0,none⟩):=by simpa using hq
 simp [results,h,hp',hq',asAddr,zdj hl hg,run_seg hd hk]
theorem res_rtstt {fn:Func} {p q t u v:Tmp} (h:fn.results=#[.cell p 27,.tmp t,.cell q 34,.tmp u,.tmp v]) (tmps:Array Value) (w:World) (g k:Nat) (cs ds:List Value) (hl:cs.length=15) (hd:ds.length=15) (hp:tmps.getD p undef=.pointer (some ⟨g,0,none⟩)) (hq:tmps.getD q undef=.pointer (some ⟨k,0,none⟩)) (hg:Box w g 27 cs) (hk:Box w k 34 ds):(results fn tmps).run Try.prog w=.ok (.tuple #[.agg cs.toArray,tmps.getD t undef,.agg ds.toArray,tmps.getD u undef,tmps.getD v undef]) w:=by
 have hp':tmps[p]?.getD undef=.pointer (some ⟨g,0,none⟩):=by simpa using hp
 have hq':tmps[q]?.getD undef=.pointer (some ⟨k,0,none⟩):=by simpa using hq
 simp [results,h,hp',hq',asAddr,zdj hl hg,run_seg hd hk]
structure Hd where
 ua:Option Addr
 uc:Nat
 la:Option Addr
 lc:Nat
 es:List En
 fa:Option Addr
 fc:Nat
def rvL (r:Pl.Rv) (h:Hd):List Value :=
 [.int .i64 r.s.n,.slice h.ua r.s.u.length h.uc,.slice h.la h.es.length h.lc,.int .i64 r.cap,.int .i64 r.shift,.int .i64 r.edge,.int .u32 r.recent,.bool r.stamps,.bool r.sacks,.int .i64 r.fin,.bool r.dn,.slice h.fa r.first.length h.fc,.int .u32 r.irs,.int .u32 r.own,.bool r.stamp]
structure SpAt (w:World) (a:Option Addr) (c:Nat) (l:List Tm):Prop where
 tims:za0 w a l
 nil:a=none→c=0
 cap:l.length≤c
 reach:l.length*16≤140737488351232
theorem SpAt.later {w w':World} {a:Option Addr} {c:Nat} {l:List Tm} (h:SpAt w a c l) (hb:Below w.heap.size w w'):SpAt w' a c l:={ h with tims:=h.tims.later hb}
theorem SpAt.nil' (w:World):SpAt w none 0 []:=⟨za0.nil _ _,fun _=>rfl,by simp,by simp⟩
theorem RowT.sp {w:World} {B:Nat} {va:Option Addr} {L vc:Nat} {l:List Tm} (h:RowT w B va L vc l) (hl:l.length*16≤140737488351232):SpAt w va vc l:=⟨h.tims,row_none h,by rw [h.len];exact h.max.1,hl⟩
structure RvAt (w:World) (r:Pl.Rv) (h:Hd):Prop where
 un:SlAt w h.ua h.uc r.s.u
 late:PcsAt w h.la h.lc h.es
 les:h.es.map En.pc=r.s.l
 fst:SpAt w h.fa h.fc r.first
 n:I64 r.s.n
 cap:I64 r.cap
 shift:I64 r.shift
 edge:I64 r.edge
 recent:U32 r.recent
 fin:I64 r.fin
 irs:U32 r.irs
 own:U32 r.own
theorem RvAt.later {w w':World} {r:Pl.Rv} {h:Hd} (H:RvAt w r h) (hb:Below w.heap.size w w'):RvAt w' r h:={ H with un:=H.un.later hb,late:=H.late.later hb,fst:=H.fst.later hb}
theorem RvAt.len {w:World} {r:Pl.Rv} {h:Hd} (H:RvAt w r h):r.s.l.length=h.es.length:=by rw [← H.les,List.length_map]
theorem Try.infoBl:(Try.prog.info? 62).map (fun i=>(i.zero,i.size,i.bytes))=some (some (.agg #[.int .u32 0,.int .u32 0]),2,8):=by kernel_rfl
structure Seg where
 sp:Int
 dp:Int
 sq:Int
 ak:Int
 fl:Int
 wn:Int
 ur:Int
 ms:Int
 sc:Int
 so:Bool
 st:Bool
 va:Int
 ec:Int
 sk:List (Int×Int)
 da:List Int
def zeroS:Seg:=⟨0,0,0,0,0,0,0,0,0,false,false,0,0,[],[]⟩
structure Hs where
 ka:Option Addr
 kc:Nat
 da:Option Addr
 dc:Nat
def sgL (s:Seg) (k:Hs):List Value :=
 [.int .i64 s.sp,.int .i64 s.dp,.int .u32 s.sq,.int .u32 s.ak,.int .i64 s.fl,.int .i64 s.wn,.int .i64 s.ur,.int .i64 s.ms,.int .i64 s.sc,.bool s.so,.bool s.st,.int .u32 s.va,.int .u32 s.ec,.slice k.ka s.sk.length k.kc,.slice k.da s.da.length k.dc]
def zbc (w:World) (a:Option Addr) (l:List (Int×Int)):Prop :=
 l.length≤maxLen∧∀ j,j<l.length→∃ b o,a=some ⟨b,o,none⟩∧w.cell? ⟨b,o+j*2,none⟩=some (.int .u32 (l[j]?.getD (0,0)).1)∧w.cell? ⟨b,o+j*2+1,none⟩=some (.int .u32 (l[j]?.getD (0,0)).2)
theorem zbc.below {w w':World} {a:Option Addr} {l:List (Int×Int)} (h:zbc w a l) {B:Nat} (hb:Below B w w') (hB:w.heap.size≤B):zbc w' a l:=by
 refine ⟨h.1,fun j hj=>?_⟩
 obtain ⟨b,o,e,hc,hd⟩:=h.2 j hj
 exact ⟨b,o,e,(hb.cell (p:=⟨b,o+j*2,none⟩) (by have:=zac hc;omega)).trans hc,(hb.cell (p:=⟨b,o+j*2+1,none⟩) (by have:=zac hd;omega)).trans hd⟩
theorem zbc.later {w w':World} {a:Option Addr} {l:List (Int×Int)} (h:zbc w a l) (hb:Below w.heap.size w w'):zbc w' a l:=h.below hb (Nat.le_refl _)
theorem zbc.nil (w:World) (a:Option Addr):zbc w a []:=⟨by simp,fun j hj=>by simp at hj⟩
structure SgAt (w:World) (s:Seg) (k:Hs):Prop where
 blks:zbc w k.ka s.sk
 data:SlAt w k.da k.dc s.da
 sq:U32 s.sq
 va:U32 s.va
 fl:I64 s.fl
theorem SgAt.later {w w':World} {s:Seg} {k:Hs} (H:SgAt w s k) (hb:Below w.heap.size w w'):SgAt w' s k:={ H with blks:=H.blks.later hb,data:=H.data.later hb}
def zb8 (l:List (Int×Int)):List Value:=l.flatMap fun b=>[Value.int .u32 b.1,Value.int .u32 b.2]
theorem bcells_len (l:List (Int×Int)):(zb8 l).length=l.length*2:=by
 induction l with
 | nil=>rfl
 | cons a r ih =>
  have:zb8 (a::r)=[Value.int .u32 a.1,Value.int .u32 a.2]++zb8 r:=rfl
  rw [this,List.length_append,ih,List.length_cons];simp;omega
theorem zfx (l:List (Int×Int)) (x:Int×Int):zb8 (l++[x])=zb8 l++[.int .u32 x.1,.int .u32 x.2]:=by simp [zb8]
theorem bcells_at:∀ (l:List (Int×Int)) (j:Nat),j<l.length→(zb8 l)[j*2]? = some (.int .u32 (l[j]?.getD (0,0)).1)∧(zb8 l)[j*2+1]? = some (.int .u32 (l[j]?.getD (0,0)).2)
 | [],j,h=>by simp at h
 | a::r,0,_=>by simp [zb8]
 | a::r,j+1,h=>by
  have:zb8 (a::r)=Value.int .u32 a.1::Value.int .u32 a.2::zb8 r:=rfl
  have ih:=bcells_at r j (by simpa using h)
  rw [this,show (j+1)*2=j*2+1+1 from by omega]
  simpa using ih
def RowB (w:World) (B:Nat) (va:Option Addr) (L vc:Nat) (l:List (Int×Int)):Prop:=w.ownsRow B 62 2 (.slice va L vc) L (zb8 l)
theorem RowB.nil (w:World) (B:Nat):RowB w B none 0 0 []:=World.ownsRow_nil _ _ _ _
theorem RowB.len {w:World} {B:Nat} {va:Option Addr} {L vc:Nat} {l:List (Int×Int)} (h:RowB w B va L vc l):l.length=L:=by
 have:=h.1;rw [bcells_len] at this;omega
theorem RowB.blks {w:World} {B:Nat} {va:Option Addr} {L vc:Nat} {l:List (Int×Int)} (h:RowB w B va L vc l) (hl:l.length≤1000):zbc w va l:=by
 have hL:=h.len
 refine ⟨by unfold maxLen;omega,fun j hj=>?_⟩
 rcases h.2 with ⟨e,h0⟩|⟨g,cap,cur,e,hg,hh,hc,hm,hsz,ht⟩
 · omega
 · cases e
   refine ⟨g,0,rfl,?_⟩
   have hat:=bcells_at l j hj
   have h2:∀ k,k<L*2→cur[k]? = (zb8 l)[k]?:=fun k hk=>by
    have:(cur.toList.take (L*2))[k]? = (zb8 l)[k]?:=by rw [ht]
    rw [List.getElem?_take_of_lt hk] at this
    simpa using this
   have e1:=h2 (j*2) (by omega)
   have e2:=h2 (j*2+1) (by omega)
   rw [hat.1] at e1
   rw [hat.2] at e2
   unfold World.cell?
   simp only [hh,Nat.zero_add]
   exact ⟨e1,e2⟩
theorem RowB.alloc {w:World} {B:Nat} {va:Option Addr} {L vc:Nat} {l:List (Int×Int)} (h:RowB w B va L vc l) (o:Obj):RowB (w.alloc o) B va L vc l:=World.ownsRow.alloc h o
theorem RowB.of_heap {w w':World} {B:Nat} {va:Option Addr} {L vc:Nat} {l:List (Int×Int)} (h:RowB w B va L vc l) (e:w'.heap=w.heap):RowB w' B va L vc l:=by
 refine ⟨h.1,?_⟩
 rw [e]
 exact h.2
theorem RowB.below {w w':World} {B:Nat} {va:Option Addr} {L vc:Nat} {l:List (Int×Int)} (h:RowB w B va L vc l) {n:Nat} (hb:Below n w w') (hn:w.heap.size≤n):RowB w' B va L vc l:=by
 refine ⟨h.1,?_⟩
 rcases h.2 with h'|⟨g,c,cur,e,hB,hh,r⟩
 · exact .inl h'
 · exact .inr ⟨g,c,cur,e,hB,(hb.block g (by have:=(Array.getElem?_eq_some_iff.1 hh).1;omega)).trans hh,r⟩
theorem RowB.later {w w':World} {B:Nat} {va:Option Addr} {L vc:Nat} {l:List (Int×Int)} (h:RowB w B va L vc l) (hb:Below w.heap.size w w'):RowB w' B va L vc l:=h.below hb (Nat.le_refl _)
theorem rowB_of {w:World} {B n:Nat} {v:Value} {l:List (Int×Int)} (h:w.ownsRow B 62 2 v n (zb8 l)):∃ va vc,v=.slice va n vc∧RowB w B va n vc l:=by
 rcases h.2 with ⟨rfl,h0⟩|⟨g,c,cur,rfl,r⟩
 · subst h0
   exact ⟨none,0,rfl,h⟩
 · exact ⟨_,_,rfl,h⟩
theorem two_oneB {f t:Int}:∀ u∈[Value.int .u32 f,Value.int .u32 t],u.oneCell'=true:=by
 intro u hu
 simp only [List.mem_cons,List.not_mem_nil,or_false] at hu
 rcases hu with rfl|rfl<;>rfl
theorem appB_run (w:World) (B:Nat) (va:Option Addr) (n vc:Nat) (xs:List (Int×Int)) (hO:RowB w B va n vc xs) (hB:B≤w.heap.size) (A:Addr) (x:Int×Int) (ty:TypeId) (hT:∀ j u,[Value.int .u32 x.1,Value.int .u32 x.2][j]? = some u→w.cell? (A.add j)=some u) (hb:(n+1)*8≤140737488355328) :
 ∃ va' vc' w',(Builtin.append_ #[32,32] ty #[.slice va n vc,.slice (some A) 1 1]).run Try.prog w=.ok (.slice va' (n+1) vc') w'∧RowB w' B va' (n+1) vc' (xs++[x])∧w.grownBy w' (Value.slice va n vc).ownBlock∧Below B w w':=by
 obtain ⟨i0,hi,hz0,hz1,hz2⟩:=info_parts Try.infoBl
 obtain ⟨v',w',hr,h1,h2,_⟩:=run_append_own (P:=Try.prog) w B 32 ty 62 i0 (.agg #[.int .u32 0,.int .u32 0]) 2 8 Try.underlying32 hi hz0 hz1 hz2 rfl (by decide) _ n _ hO A 1 1 [.int .u32 x.1,.int .u32 x.2] rfl hT two_oneB (by unfold maxLen;omega) hb hB
 rw [← zfx] at h1
 obtain ⟨va',vc',rfl,hR⟩:=rowB_of h1
 exact ⟨va',vc',w',hr,hR,h2,za4 (Below.refl _ w) hB hO h2⟩
end Go.Proofs.Ytkigcdmlkmcdcaa
/- The contracts of the small functions. -/
namespace Go.Proofs.Ytkigcdmlkmcdcaa
open Go.ChangeShapes Go.WideShapes Go.ChangeAt Go.RowKit
set_option linter.unusedVariables false
theorem diff_wrap (a b:Int):Go.RowKit.wrap64 (Go.RowKit.wrap32 ((b-a) % 4294967296))=Pl.dfI a b:=by
 unfold Go.RowKit.wrap64 Go.RowKit.wrap32 Pl.dfI;omega
theorem add_wrap (a n:Int):(a+n % 4294967296) % 4294967296=Pl.adI a n:=by unfold Pl.adI;omega
theorem df_bd (a b:Int):-2147483648≤Pl.dfI a b∧Pl.dfI a b≤2147483647:=by unfold Pl.dfI;omega
theorem diff_walk (a b:Int) (ha:U32 a) (hb:U32 b) (w:World) :
 Calls Try.prog 59 #[.int .u32 a,.int .u32 b] w fun e w'=>e=.returned (.int .i64 (Pl.dfI a b))∧w'=w:=by
 unfold U32 at ha hb
 go_enter Try.func59,Try.ntmps59
 go_wp2
 go_ret
 exact ⟨za9 (diff_wrap a b),rfl⟩
theorem zfe (a n:Int) (w:World) :
 Calls Try.prog 58 #[.int .u32 a,.int .i64 n] w fun e w'=>e=.returned (.int .u32 (Pl.adI a n))∧w'=w:=by
 go_enter Try.func58,Try.ntmps58
 go_wp2
 go_ret
 exact ⟨za9 (add_wrap a n),rfl⟩
theorem sum_walk (a b:Int) (ha:-1125899906842624≤a∧a≤1125899906842624) (hb:-2147483648≤b∧b≤2147483647) (w:World) :
 Calls Try.prog 75 #[.int .i64 a,.int .i64 b] w fun e w'=>e=.returned (.int .i64 (a+b))∧w'=w:=by
 go_enter Try.func75,Try.ntmps75
 go_wp2
 all_goals go_ret
 all_goals (refine ⟨za9 ?_,rfl⟩;omega)
theorem zgl (x high:Int) (hh:0≤high) (w:World) :
 Calls Try.prog 30 #[.int .i64 x,.int .i64 0,.int .i64 high] w fun e w'=>e=.returned (.int .i64 (Pl.minJ (Pl.maxJ x 0) high))∧w'=w:=by
 go_enter Try.func30,Try.ntmps30
 go_wp2
 all_goals go_ret
 all_goals (refine ⟨za9 ?_,rfl⟩;unfold Pl.minJ Pl.maxJ;first|omega|(split<;>split<;>omega))
theorem unwrap_walk (a b:Int) (ha:0≤a∧a≤1125899906842624) (hb:U32 b) (w:World) :
 Calls Try.prog 60 #[.int .i64 a,.int .u32 b] w fun e w'=>e=.returned (.int .i64 (a+Pl.dfI (a % 4294967296) b))∧w'=w:=by
 have hd:=df_bd (a % 4294967296) b
 have hm:U32 (a % 4294967296):=by unfold U32;omega
 go_enter Try.func60,Try.ntmps60
 go_wp2_with (first|(go_at_call 59;refine (diff_walk (a % 4294967296) _ hm hb _).mono ?_;rintro e w' ⟨rfl,rfl⟩)|(go_at_call 75;refine (sum_walk _ (Pl.dfI (a % 4294967296) b) (by omega) (by omega) _).mono ?_;rintro e w' ⟨rfl,rfl⟩))
 go_ret
 exact ⟨rfl,rfl⟩
def roomB (size shift:Int):Bool:=decide (1≤size)&&decide (size≤1073741824)&&decide (0≤shift)&&decide (shift≤14)
theorem zfm {size shift:Int}:roomB size shift=true↔1≤size∧size≤1073741824∧0≤shift∧shift≤14:=by simp [roomB,and_assoc]
theorem zd0 (size shift:Int) (w:World) :
 Calls Try.prog 49 #[.int .i64 size,.int .i64 shift] w fun e w'=>e=.returned (.bool (roomB size shift))∧w'=w:=by
 go_enter Try.func49,Try.ntmps49
 go_wp2
 all_goals go_ret
 all_goals (refine ⟨za1 ?_,rfl⟩;unfold roomB;simp_all<;>omega)
theorem zbg {x:Int} (h1:-9223372036854775808≤x) (h2:x≤9223372036854775807):wrap64 x=x:=by unfold wrap64;omega
def lowB (r:Pl.Rv):Prop:=(0≤r.s.n∧r.s.n≤562949953421312)∧(1≤r.cap∧r.cap≤1073741824)∧(0≤r.shift∧r.shift≤14)∧(r.s.u.length:Int)≤r.cap∧(r.s.u.length:Int)≤r.s.n
theorem zgd (r:Pl.Rv) (h:Hd) (w:World) (hl:lowB r) :
 Calls Try.prog 50 #[.agg #[.int .i64 r.s.n,.slice h.ua r.s.u.length h.uc,.slice h.la h.es.length h.lc,.int .i64 r.cap,.int .i64 r.shift,.int .i64 r.edge,.int .u32 r.recent,.bool r.stamps,.bool r.sacks,.int .i64 r.fin,.bool r.dn,.slice h.fa r.first.length h.fc,.int .u32 r.irs,.int .u32 r.own,.bool r.stamp]] w fun e w'=>e=.returned (.int .i64 r.reach)∧Below w.heap.size w w':=by
 obtain ⟨h1,h2,h3,h4,h5⟩:=hl
 go_enter Try.func50,Try.ntmps50
 go_wp2
 go_ret
 exact ⟨za9 (by unfold Pl.Rv.reach Pl.Rx.bot;omega),(Below.refl _ _).alloc (Nat.le_refl _) _⟩
theorem zcb (r:Pl.Rv) (h:Hd) (w:World) (hl:lowB r) :
 Calls Try.prog 29 #[.agg #[.int .i64 r.s.n,.slice h.ua r.s.u.length h.uc,.slice h.la h.es.length h.lc,.int .i64 r.cap,.int .i64 r.shift,.int .i64 r.edge,.int .u32 r.recent,.bool r.stamps,.bool r.sacks,.int .i64 r.fin,.bool r.dn,.slice h.fa r.first.length h.fc,.int .u32 r.irs,.int .u32 r.own,.bool r.stamp]] w fun e w'=>e=.returned (.int .i64 r.window)∧Below w.heap.size w w':=by
 obtain ⟨h1,h2,h3,h4,h5⟩:=hl
 go_enter Try.func29,Try.ntmps29
 go_wp2
 all_goals go_ret
 all_goals (refine ⟨za9 ?_,(Below.refl _ _).alloc (Nat.le_refl _) _⟩;have hw:=Pl.window_bd h4;unfold Pl.Rv.window at hw ⊢;unfold Pl.minJ at hw ⊢)
 · rw [if_pos (by assumption)] at hw ⊢;exact zbg (by omega) (by omega)
 · rw [if_neg (by omega)] at hw ⊢;exact zbg (by omega) (by omega)
theorem zgh (r:Pl.Rv) (h:Hd) (w:World) (hl:lowB r) :
 Calls Try.prog 72 #[.agg #[.int .i64 r.s.n,.slice h.ua r.s.u.length h.uc,.slice h.la h.es.length h.lc,.int .i64 r.cap,.int .i64 r.shift,.int .i64 r.edge,.int .u32 r.recent,.bool r.stamps,.bool r.sacks,.int .i64 r.fin,.bool r.dn,.slice h.fa r.first.length h.fc,.int .u32 r.irs,.int .u32 r.own,.bool r.stamp]] w fun e w'=>e=.returned (.int .i64 r.limit)∧Below w.heap.size w w':=by
 have c:=fun W=>zgd r h W hl
 obtain ⟨R,hR⟩:∃ R,r.reach=R:=⟨_,rfl⟩
 have HL:Hid (r.limit=Pl.minJ R 562949953421312):=by unfold Hid Pl.Rv.limit;rw [hR];rfl
 rw [hR] at c
 clear hR hl
 go_enter Try.func72,Try.ntmps72
 go_wp2_with (go_at_call 50;refine (c _).mono ?_;rintro e w1 ⟨rfl,hB⟩)
 all_goals go_ret
 all_goals (refine ⟨za9 ?_,((Below.refl _ w).alloc (Nat.le_refl _) _).trans (hB.mono (by simp))⟩;rw [HL.out];unfold Pl.minJ;first|rw [if_pos (by assumption)]|rw [if_neg (by omega)])
theorem zbu (f:Int) (a:Option Addr) (n c:Nat) (w:World) (t:Int) (ht:wrap64 (f+(n:Int))=t) :
 Calls Try.prog 55 #[.agg #[.int .i64 f,.slice a n c]] w fun e w'=>e=.returned (.agg #[.int .i64 f,.int .i64 t])∧Below w.heap.size w w':=by
 go_enter Try.func55,Try.ntmps55
 go_wp2
 refine bodyPost_ret (v:=.agg #[.int .i64 f,.int .i64 t]) (by simp [results,Try.results55,go_sem]) rfl ⟨rfl,?_⟩
 exact ((Below.refl _ w).alloc (Nat.le_refl _) _).alloc (by simp) _
end Go.Proofs.Ytkigcdmlkmcdcaa
