/- The document's put: what its loop keeps. -/
import Derived.Test.YtkigcdmlkmcdcaaQZ
import Derived.Test.YtkigcdmlkmcdcaaQGG
namespace Go.Proofs.Ytkigcdmlkmcdcaa
open Go.ChangeShapes Go.WideShapes Go.ChangeAt Go.RowKit
set_option linter.unusedVariables false
set_option linter.unusedSimpArgs false
structure PutI (w wr:World) (es:List En) (x b lo hi:Int) (i:Nat) (dn:Bool) (va:Option Addr) (vc:Nat) (oE:List En) (fr:En):Prop where
 row:RowE wr (w.heap.size+2) va oE.length vc oE
 box:Box wr (w.heap.size+1) 74 [.int .i64 fr.f,.slice fr.a fr.bs.length fr.c]
 fm:fr.mine wr w.heap.size
 bel:Below w.heap.size w wr
 go:Pl.putGo x b ((es.drop i).map En.pc) (oE.map En.pc) fr.pc dn=Pl.putL (es.map En.pc) x b
 s0:dn=false→oE.Sublist (es.take i)
 s1:dn=true→∃ l1 l2,oE=l1++fr::l2∧(l1++l2).Sublist (es.take i)
 f0:dn=false→∃ lo,Pl.latB lo ((es.drop i).map En.pc)∧(Pl.pend fr.pc≤lo∨Pl.pend fr.pc=x+1)
 f1:dn=true→∃ lo,Pl.latB lo ((es.drop i).map En.pc)∧x≤lo∧Pl.pend fr.pc≤lo
 fb:lo≤fr.f∧Pl.pend fr.pc≤hi
theorem zbl {α:Type} {es:List α} {i:Nat} {e:α} (he:es[i]? = some e):es.drop i=e::es.drop (i+1)∧es.take (i+1)=es.take i++[e]:=by
 have hi:i<es.length:=by
  rcases Nat.lt_or_ge i es.length with h|h
  · exact h
  · rw [List.getElem?_eq_none h] at he;cases he
 refine ⟨?_,?_⟩
 · rw [List.drop_eq_getElem_cons hi]
   rw [List.getElem?_eq_getElem hi] at he
   injection he with he
   rw [he]
 · rw [List.take_add_one,he];rfl
section
variable {w Y w4:World} {es:List En} {x b lo hi:Int} {i:Nat} {dn:Bool} {va va4:Option Addr} {vc vc4:Nat} {oE:List En} {fr e:En}
theorem PutI.later (h:PutI w Y es x b lo hi i dn va vc oE fr) (hb:Below Y.heap.size Y w4):PutI w w4 es x b lo hi i dn va vc oE fr :=
 { h with row:=h.row.later hb,box:=h.box.later hb,fm:=h.fm.later hb,bel:=Below.on h.bel hb}
theorem PutI.len (h:PutI w Y es x b lo hi i dn va vc oE fr):oE.length≤i+1:=by
 cases dn with
 | false=>have:=(h.s0 rfl).length_le;simp at this;omega
 | true =>
  obtain ⟨l1,l2,e1,e2⟩:=h.s1 rfl
  have:=e2.length_le
  rw [e1];simp at this ⊢;omega
theorem PutI.grow (h:PutI w Y es x b lo hi i dn va vc oE fr) (hg:Y.grownBy w4 (Value.slice va oE.length vc).ownBlock):Box w4 (w.heap.size+1) 74 [.int .i64 fr.f,.slice fr.a fr.bs.length fr.c]∧fr.mine w4 w.heap.size∧Below w.heap.size w w4:=by
 have hk:∀ k,some k=(Value.slice va oE.length vc).ownBlock→w.heap.size+2≤k∧∃ cur,Y.heap[k]? = some (.cells cur 74 (0,0)):=fun k e=>by
  obtain ⟨_,h1,_,h2⟩:=zaj h.row (za6 e.symm)
  exact ⟨h1,h2⟩
 refine ⟨(hg.block _ h.box.lt (fun e=>by have:=(hk _ e).1;omega)).trans h.box,h.fm.moved (fun k hkl hl=>hg.block k hkl (fun e=>?_)),h.bel.grown hg h.bel.size (fun k e=>by have:=(hk k e.symm).1;omega)⟩
 obtain ⟨_,_,_,cur,h1⟩:=h.fm.lies hl
 obtain ⟨_,cur2,h2⟩:=hk k e
 exact absurd (za2 h1 h2) (by decide)
theorem PutI.keep (h:PutI w Y es x b lo hi i dn va vc oE fr) (he:es[i]? = some e) (q1:¬Pl.pend e.pc=x) (q2:¬e.f=Pl.pend fr.pc) (q3:¬(x<e.f∧dn=false)) (hrow:RowE w4 (w.heap.size+2) va4 (oE.length+1) vc4 (oE++[e])) (hg:Y.grownBy w4 (Value.slice va oE.length vc).ownBlock) :
 PutI w w4 es x b lo hi (i+1) dn va4 vc4 (oE++[e]) fr:=by
 obtain ⟨g1,g2,g3⟩:=h.grow hg
 obtain ⟨d1,d2⟩:=zbl he
 have hgo:=h.go
 rw [d1,List.map_cons,Pl.putGo,if_neg q1,if_neg (show ¬e.pc.1=Pl.pend fr.pc from q2),if_neg (show ¬(x<e.pc.1∧dn=false) from q3)] at hgo
 refine ⟨by simpa using hrow,g1,g2,g3,by rw [List.map_append];exact hgo,fun hd=>?_,fun hd=>?_,fun hd=>?_,fun hd=>?_,h.fb⟩
 · rw [d2];exact (h.s0 hd).append (List.Sublist.refl _)
 · obtain ⟨l1,l2,e1,e2⟩:=h.s1 hd
   exact ⟨l1,l2++[e],by rw [e1];simp,by rw [d2,← List.append_assoc];exact e2.append (List.Sublist.refl _)⟩
 · obtain ⟨lo',h1,h2⟩:=h.f0 hd
   rw [d1,List.map_cons] at h1
   have:=h1.1
   have:=Pl.pend_lt h1.2.1
   exact ⟨_,h1.2.2,by omega⟩
 · obtain ⟨lo',h1,h2,h3⟩:=h.f1 hd
   rw [d1,List.map_cons] at h1
   have:=h1.1
   have:=Pl.pend_lt h1.2.1
   exact ⟨_,h1.2.2,by omega,by omega⟩
theorem PutI.lay (h:PutI w Y es x b lo hi i false va vc oE fr) (he:es[i]? = some e) (q1:¬Pl.pend e.pc=x) (q2:¬e.f=Pl.pend fr.pc) (q3:x<e.f) (hrow:RowE w4 (w.heap.size+2) va4 (oE.length+2) vc4 (oE++[fr,e])) (hg:Y.grownBy w4 (Value.slice va oE.length vc).ownBlock) :
 PutI w w4 es x b lo hi (i+1) true va4 vc4 (oE++[fr,e]) fr:=by
 obtain ⟨g1,g2,g3⟩:=h.grow hg
 obtain ⟨d1,d2⟩:=zbl he
 have hgo:=h.go
 rw [d1,List.map_cons,Pl.putGo,if_neg q1,if_neg (show ¬e.pc.1=Pl.pend fr.pc from q2),if_pos (show x<e.pc.1∧false=false from ⟨q3,rfl⟩)] at hgo
 obtain ⟨lo',h1,h2⟩:=h.f0 rfl
 rw [d1,List.map_cons] at h1
 have k1:lo'<e.f:=h1.1
 have k2:e.f<Pl.pend e.pc:=Pl.pend_lt h1.2.1
 refine ⟨by simpa using hrow,g1,g2,g3,by rw [List.map_append];exact hgo,(fun hd=>by cases hd),fun _=>⟨oE,[e],rfl,?_⟩,(fun hd=>by cases hd),fun _=>⟨_,h1.2.2,by omega,by omega⟩,h.fb⟩
 rw [d2];exact (h.s0 rfl).append (List.Sublist.refl _)
theorem PutI.on {fa:Option Addr} {fc:Nat} (h:PutI w Y es x b lo hi i dn va vc oE fr) (he:es[i]? = some e) (q1:Pl.pend e.pc=x) (hx:x<hi) (hlo:lo≤e.f) (hB:Below Y.heap.size Y w4) (hm:(⟨e.f,fa,fc,e.bs++[b]⟩:En).mine w4 Y.heap.size) :
 PutI w ((w4.setCell ⟨w.heap.size+1,0,none⟩ (.int .i64 e.f)).setCell ⟨w.heap.size+1,1,none⟩ (.slice fa (e.bs++[b]).length fc)) es x b lo hi (i+1) dn va vc oE ⟨e.f,fa,fc,e.bs++[b]⟩:=by
 have h4:=h.later hB
 obtain ⟨d1,d2⟩:=zbl he
 have hgo:=h.go
 rw [d1,List.map_cons,Pl.putGo,if_pos q1] at hgo
 have hdn:dn=false:=by
  cases dn with
  | false=>rfl
  | true =>
   obtain ⟨lo',h1,h2,_⟩:=h.f1 rfl
   rw [d1,List.map_cons] at h1
   have:=h1.1
   have:=Pl.pend_lt h1.2.1
   omega
 subst hdn
 obtain ⟨lo',h1,_⟩:=h.f0 rfl
 rw [d1,List.map_cons] at h1
 have hpe:Pl.pend (e.f,e.bs++[b])=x+1:=by
  have:Pl.pend e.pc=e.f+(e.bs.length:Int):=rfl
  simp [Pl.pend];omega
 have hs:w.heap.size≤Y.heap.size:=h.bel.size
 refine ⟨zas (zas h4.row _ _ _ (by omega)) _ _ _ (by omega),(h4.box.set 0 _).set 1 _,?_,zar (zar h4.bel _ _ _ (by omega)) _ _ _ (by omega),hgo,fun _=>?_,(fun hd=>by cases hd),fun _=>⟨_,h1.2.2,.inr hpe⟩,(fun hd=>by cases hd),hlo,by show Pl.pend (e.f,e.bs++[b])≤hi;omega⟩
 · have b1:=h4.box
   exact ((hm.mono hs).beside b1 (by decide) 0 _).beside (b1.set 0 _) (by decide) 1 _
 · rw [d2];exact (h.s0 rfl).trans (List.sublist_append_left _ _)
theorem PutI.join {fa:Option Addr} {fc:Nat} (h:PutI w Y es x b lo hi i dn va vc oE fr) (he:es[i]? = some e) (q1:¬Pl.pend e.pc=x) (q2:e.f=Pl.pend fr.pc) (hhi:Pl.pend e.pc≤hi) (hr:Row w4 w.heap.size fa (fr.bs.length+e.bs.length) fc (fr.bs++e.bs)) (hby:Byts e.bs) (hl:(fr.bs++e.bs).length≤140737488351232) (hg:Y.grownBy w4 (Value.slice fr.a fr.bs.length fr.c).ownBlock) :
 PutI w (w4.setCell ⟨w.heap.size+1,1,none⟩ (.slice fa (fr.bs.length+e.bs.length) fc)) es x b lo hi (i+1) dn va vc oE ⟨fr.f,fa,fc,fr.bs++e.bs⟩:=by
 obtain ⟨d1,d2⟩:=zbl he
 have hgo:=h.go
 rw [d1,List.map_cons,Pl.putGo,if_neg q1,if_pos (show e.pc.1=Pl.pend fr.pc from q2)] at hgo
 have hk:∀ k,some k=(Value.slice fr.a fr.bs.length fr.c).ownBlock→w.heap.size≤k∧∃ cur,Y.heap[k]? = some (.cells cur 5 (0,0)):=fun k e=>by
  obtain ⟨_,h1,_,h2⟩:=zaj h.fm.row (za6 e.symm)
  exact ⟨h1,h2⟩
 have hdn:dn=false:=by
  cases dn with
  | false=>rfl
  | true =>
   obtain ⟨lo',h1,_,h2⟩:=h.f1 rfl
   rw [d1,List.map_cons] at h1
   have h3:lo'<e.f:=h1.1
   omega
 subst hdn
 obtain ⟨lo',h1,_⟩:=h.f0 rfl
 rw [d1,List.map_cons] at h1
 have hpe:Pl.pend (fr.f,fr.bs++e.bs)=Pl.pend e.pc:=by
  have h1:Pl.pend e.pc=e.f+(e.bs.length:Int):=rfl
  have h2:Pl.pend fr.pc=fr.f+(fr.bs.length:Int):=rfl
  simp [Pl.pend] at *;omega
 have hbx:Box w4 (w.heap.size+1) 74 [.int .i64 fr.f,.slice fr.a fr.bs.length fr.c]:=(hg.block _ h.box.lt (fun e=>by
  obtain ⟨_,cur,h2⟩:=hk _ e
  exact absurd (za2 h.box h2) (by decide))).trans h.box
 have hrw:RowE w4 (w.heap.size+2) va oE.length vc oE:=zaz h.row (fun k hkl hl=>hg.block k hkl (fun e=>by
  obtain ⟨_,_,_,cur,h1⟩:=zaj h.row hl
  obtain ⟨_,cur2,h2⟩:=hk k e
  exact absurd (za2 h1 h2) (by decide)))
 have hb4:Below w.heap.size w w4:=h.bel.grown hg h.bel.size (fun k e=>(hk k e.symm).1)
 refine ⟨zas hrw _ _ _ (by omega),by simpa using hbx.set 1 (.slice fa (fr.bs.length+e.bs.length) fc),?_,zar hb4 _ _ _ (by omega),hgo,fun _=>?_,(fun hd=>by cases hd),fun _=>⟨_,h1.2.2,.inl (by show Pl.pend (fr.f,fr.bs++e.bs)≤_;rw [hpe];exact Int.le_refl _)⟩,(fun hd=>by cases hd),h.fb.1,by show Pl.pend (fr.f,fr.bs++e.bs)≤hi;omega⟩
 · have hm:(⟨fr.f,fa,fc,fr.bs++e.bs⟩:En).mine w4 w.heap.size:=⟨by simpa using hr,zbv h.fm.byt hby,hl,h.fm.f⟩
   exact hm.beside hbx (by decide) 1 _
 · rw [d2];exact (h.s0 rfl).trans (List.sublist_append_left _ _)
end
end Go.Proofs.Ytkigcdmlkmcdcaa
namespace Go.Proofs.Ytkigcdmlkmcdcaa
open Go.ChangeShapes Go.WideShapes Go.ChangeAt Go.RowKit
set_option linter.unusedVariables false
set_option linter.unusedSimpArgs false
structure TkAt (w:World) (B:Nat) (s:Pl.Rx) (h:Hd):Prop where
 les:h.es.map En.pc=s.l
 pcs:PcsAt w h.la h.lc h.es
 fam:Fam w B (⟨0,h.ua,h.uc,s.u⟩::h.es)
 pt:∀ k,lies h.la k→∃ cur fr,w.heap[k]? = some (.cells cur 74 fr)
theorem TkAt.later {w w':World} {B:Nat} {s:Pl.Rx} {h:Hd} (H:TkAt w B s h) (hb:Below w.heap.size w w'):TkAt w' B s h :=
 ⟨H.les,H.pcs.later hb,H.fam.later hb,fun k hk=>by
  obtain ⟨cur,fr,e⟩:=H.pt k hk
  exact ⟨cur,fr,(hb.block k (Array.getElem?_eq_some_iff.1 e).1).trans e⟩⟩
theorem TkAt.beside {w:World} {B:Nat} {s:Pl.Rx} {h:Hd} (H:TkAt w B s h) {g:Nat} {t':TypeId} {cur:Array Value} {fr:Nat×Nat} (hg:w.heap[g]? = some (.cells cur t' fr)) (h5:t'≠5) (hp:t'≠74) (j:Nat) (u:Value):TkAt (w.setCell ⟨g,j,none⟩ u) B s h:=by
 have hfam:=H.fam.beside hg h5 j u
 have hne:∀ k,lies h.la k→k≠g:=fun k hk e=>by
  subst e
  obtain ⟨c2,f2,e2⟩:=H.pt k hk
  exact hp (za2 hg e2)
 refine ⟨H.les,{ H.pcs with ents:=fun i x hi=>?_,ok:=fun x hx=>(hfam.mine x (List.mem_cons_of_mem _ hx)).ok},hfam,fun k hk=>?_⟩
 · obtain ⟨b,o,e,h1,h2⟩:=H.pcs.ents i x hi
   have hb:=Below.heap_setCell w ⟨g,j,none⟩ u b (hne b ⟨_,_,e⟩)
   exact ⟨b,o,e,(World.cell?_of_block (w:=w) hb).trans h1,(World.cell?_of_block (w:=w) hb).trans h2⟩
 · obtain ⟨c2,f2,e2⟩:=H.pt k hk
   exact ⟨c2,f2,(Below.heap_setCell w ⟨g,j,none⟩ u k (hne k hk)).trans e2⟩
theorem TkAt.besideAll {B:Nat} {s:Pl.Rx} {h:Hd} {g:Nat} {t':TypeId} (h5:t'≠5) (hp:t'≠74):∀ (vs:List Value) (w:World) (cs:List Value) (i:Nat),TkAt w B s h→Box w g t' cs→TkAt (setAll w g i vs) B s h
 | [],_,_,_,H,_=>H
 | u::vs,_,_,i,H,hg=>TkAt.besideAll h5 hp vs _ _ (i+1) (H.beside hg h5 hp i u) (hg.set i u)
theorem zc0 {w:World} {B:Nat} {s:Pl.Rx} {h:Hd} (H:TkAt w B s h):(⟨0,h.ua,h.uc,s.u⟩:En).mine w B:=H.fam.mine _ (List.mem_cons_self ..)
theorem tk_step {V V':World} {B:Nat} {s:Pl.Rx} {h:Hd} {x:En} {rest:List En} {ua':Option Addr} {uc':Nat} (H:TkAt V B s h) (he:h.es=x::rest) (hc:Chg (lies h.ua) V V') (hr:Row V' B ua' (s.u++x.bs).length uc' (s.u++x.bs)) (hl:(s.u++x.bs).length≤140737488351232) (hn:∀ k,lies ua' k→lies h.ua k∨V.heap.size≤k) (n':Int) :
 TkAt V' B ⟨n',s.u++x.bs,rest.map En.pc⟩ ⟨ua',uc',cutE h.la h.lc 1,h.lc-1,rest,h.fa,h.fc⟩:=by
 have hu:=zc0 H
 have hx:=H.fam.mine x (by rw [he];simp)
 have hf:Fam V' B ([]++(⟨0,ua',uc',s.u++x.bs⟩:En)::h.es):=Fam.replace (l1:=[]) H.fam (fun k cur hk hnl=>hc.same k (Array.getElem?_eq_some_iff.1 hk).1 hnl) ⟨hr,zbv hu.byt hx.byt,hl,hu.f⟩ hn
 have hf2:Fam V' B ((⟨0,ua',uc',s.u++x.bs⟩:En)::rest):=by
  rw [he] at hf
  exact Fam.drop1 (l1:=[(⟨0,ua',uc',s.u++x.bs⟩:En)]) (x:=x) (l2:=rest) hf
 have hpt:∀ k,lies h.la k→V'.heap[k]? = V.heap[k]?:=fun k hk=>by
  obtain ⟨c2,f2,e2⟩:=H.pt k hk
  exact hc.same k (Array.getElem?_eq_some_iff.1 e2).1 (fun hlu=>by
   obtain ⟨_,_,_,c3,e3⟩:=hu.lies hlu
   exact absurd (za2 e2 e3) (by decide))
 have hP:=H.pcs
 have hlen:h.es.length=rest.length+1:=by rw [he];rfl
 have hents:za5 V' h.la (x::rest):=by
  rw [← he]
  intro i y hi
  obtain ⟨b,o,e,h1,h2⟩:=hP.ents i y hi
  have hb:=hpt b ⟨_,_,e⟩
  exact ⟨b,o,e,(World.cell?_of_block (w:=V) hb).trans h1,(World.cell?_of_block (w:=V) hb).trans h2⟩
 refine ⟨rfl,⟨by show rest.length*32≤_;have:=hP.reach;omega,by show rest.length≤h.lc-1;have:=hP.cap;omega,Nat.le_trans (Nat.sub_le _ _) hP.max,fun hz=>?_,za5.tail (c:=h.lc) (es:=rest) hents (by have:=hP.cap;omega),fun y hy=>(hf2.mine y (List.mem_cons_of_mem _ hy)).ok⟩,hf2,fun k hk=>?_⟩
 · obtain ⟨b,o,e,_⟩:=hents 0 x rfl
   simp only [cutE] at hz
   split at hz
   · rw [e] at hz;cases hz
   · rw [e] at hz;cases hz
 · obtain ⟨c2,f2,e2⟩:=H.pt k (zdk hk)
   exact ⟨c2,f2,(hpt k (zdk hk)).trans e2⟩
theorem tk_keep {w V V':World} {B:Nat} {s:Pl.Rx} {h:Hd} (H:TkAt V B s h) (hk:Keep B w V) (hB:B≤w.heap.size) (hc:Chg (lies h.ua) V V'):Keep B w V' :=
 hk.step hB hc (fun k hl=>by
  obtain ⟨_,h1,_,cur,h2⟩:=(zc0 H).lies hl
  exact .inr ⟨h1,_,_,h2⟩)
theorem ord_step {s:Pl.Rx} {p:Pl.Pc} {r:List Pl.Pc} (h:s.l=p::r) (hp:p.1=s.n):Pl.ordR s=⟨Pl.pend p,s.u++p.2,r⟩:=by
 unfold Pl.ordR;rw [h];simp only;rw [if_pos hp]
theorem ord_stay {s:Pl.Rx} (h:∀ p r,s.l=p::r→p.1≠s.n):Pl.ordR s=s:=by
 unfold Pl.ordR
 split
 · rfl
 · rename_i p r e;rw [if_neg (h p r e)]
def lenAt (w:World) (p:Addr):Nat:=match w.cell? p with|some (.slice _ n _)=>n|_=>0
end Go.Proofs.Ytkigcdmlkmcdcaa
namespace Go.Proofs.Ytkigcdmlkmcdcaa
open Go.ChangeShapes Go.WideShapes Go.ChangeAt Go.RowKit
set_option linter.unusedVariables false
set_option linter.unusedSimpArgs false
structure Tkb (s:Pl.Rx) (b0 hb:Int):Prop where
 ok:s.ok
 bot:s.bot=b0
 bel:Pl.below s hb
theorem zfq {hi:Int}:∀ {l:List Pl.Pc} {lo:Int},Pl.latB lo l→(∀ p∈l,Pl.pend p≤hi)→l=[]∨(l.length:Int)≤hi-lo
 | [],_,_,_=>.inl rfl
 | p::r,lo,h,hp=>by
  right
  have h1:=h.1
  have h2:=Pl.pend_lt h.2.1
  have h3:=hp p (List.mem_cons_self ..)
  rcases zfq h.2.2 (fun q hq=>hp q (List.mem_cons_of_mem _ hq)) with e|e
  · subst e;simp only [List.length_cons,List.length_nil];omega
  · simp only [List.length_cons];omega
theorem lat_lo:∀ {l:List Pl.Pc} {lo:Int},Pl.latB lo l→∀ p∈l,lo<p.1∧0<p.2.length
 | [],_,_,_,hp=>by cases hp
 | q::r,lo,h,p,hp=>by
  rcases List.mem_cons.1 hp with e|e
  · subst e;exact ⟨h.1,h.2.1⟩
  · have h1:=h.1
    have h2:=Pl.pend_lt h.2.1
    have h3:=lat_lo h.2.2 p e
    exact ⟨by omega,h3.2⟩
theorem Tkb.rng {s:Pl.Rx} {b0 hb:Int} (h:Tkb s b0 hb) (hl:b0≤hb):s.n≤hb∧s.n-(s.u.length:Int)=b0∧∀ p∈s.l,s.n<p.1∧Pl.pend p≤hb :=
 ⟨Pl.below_next (by rw [h.bot];exact hl) h.bel,h.bot,fun p hp=>⟨(lat_lo h.ok p hp).1,Pl.below_pend h.ok h.bel p hp⟩⟩
theorem Tkb.put {s:Pl.Rx} {b0 hb x b:Int} (h:Tkb s b0 hb) (hl:b0≤hb) (h1:s.n≤x) (h2:x<hb) (hn:Pl.hasL s.l x=none) :
 Tkb (Pl.ordR ⟨s.n,s.u,Pl.putL s.l x b⟩) b0 hb∧Pl.latB (s.n-1) (Pl.putL s.l x b)∧s.n≤(Pl.ordR ⟨s.n,s.u,Pl.putL s.l x b⟩).n∧∀ p∈Pl.putL s.l x b,s.n≤p.1∧Pl.pend p≤hb:=by
 obtain ⟨q1,q2,q3,q4⟩:=Pl.step_spec (b:=b) h.ok h1 hn
 obtain ⟨l',e1,e2,e3⟩:=Pl.put_spec (b:=b) (out:=[]) (Pl.latB.mono h.ok (by omega:s.n-1≤s.n)) (by omega:s.n-1<x) hn
 have e1':Pl.putL s.l x b=l':=by unfold Pl.putL;rw [e1];rfl
 have hbl:=Pl.bot_le s
 refine ⟨⟨q1,q2.trans h.bot,fun z v hz hv=>?_⟩,by rw [e1'];exact e2,q3,fun p hp=>?_⟩
 · rw [q2] at hz
   rw [q4 z hz] at hv
   by_cases e:z=x
   · omega
   · rw [if_neg e] at hv;exact h.bel z v hz hv
 · rw [e1'] at hp
   refine ⟨by have:=(lat_lo e2 p hp).1;omega,?_⟩
   refine Pl.below_pend (s:=⟨s.n-1,[],l'⟩) e2 (fun z v hz hv=>?_) p hp
   have hz':s.n-1≤z:=by unfold Pl.Rx.bot at hz;simpa using hz
   rw [Pl.at_late (s:=⟨s.n-1,[],l'⟩) hz'] at hv
   simp only at hv
   rw [e3] at hv
   by_cases e:z=x
   · omega
   · rw [if_neg e] at hv
     by_cases c:s.n≤z
     · exact h.bel z v (by omega) (by rw [Pl.at_late c];exact hv)
     · rw [Pl.has_low h.ok (by omega)] at hv;cases hv
theorem tk_put {V V':World} {B:Nat} {s:Pl.Rx} {h:Hd} {x b:Int} {va:Option Addr} {vc:Nat} {es' l1 l2:List En} {fr:En} (H:TkAt V B s h) (hB:B≤V.heap.size) (he:es'=l1++fr::l2) (hs:(l1++l2).Sublist h.es) (hm:es'.map En.pc=Pl.putL s.l x b) (hr:RowE V' V.heap.size va es'.length vc es') (hf:fr.mine V' V.heap.size) (hb:Below V.heap.size V V') (hl:es'.length*32≤140737488351232) :
 TkAt V' B ⟨s.n,s.u,Pl.putL s.l x b⟩ ⟨h.ua,h.uc,va,vc,es',h.fa,h.fc⟩:=by
 have f1:Fam V B ((⟨0,h.ua,h.uc,s.u⟩:En)::(l1++l2)):=⟨fun y hy=>H.fam.mine y ((hs.cons_cons _).subset hy),H.fam.part.sublist (hs.cons_cons _)⟩
 have f2:=f1.snoc hb hB hf
 have f3:Fam V' B ((⟨0,h.ua,h.uc,s.u⟩:En)::es'):=f2.perm (by
  rw [he,List.cons_append]
  refine List.Perm.cons _ ?_
  rw [List.append_assoc]
  exact List.Perm.append_left l1 (List.perm_append_comm (l₁:=[fr]) (l₂:=l2)))
 refine ⟨hm,Fam.pcs ⟨fun y hy=>f3.mine y (List.mem_cons_of_mem _ hy),(List.pairwise_cons.1 f3.part).2⟩ (hr.mono hB) hl,f3,fun k hk=>?_⟩
 obtain ⟨_,_,e⟩:=hk
 simp only at e
 subst e
 rcases hr.at with e|⟨g,e,_⟩
 · cases e
 · cases e
   obtain ⟨cur,e2⟩:=hr.obj
   exact ⟨cur,_,e2⟩
theorem take_out {lo hi x b:Int} {r:List Int} {s:Pl.Rx} {f:Bool} (h:x<lo∨hi≤x):Pl.takeGo lo hi (b::r) x s f=Pl.takeGo lo hi r (x+1) s f:=by rw [Pl.takeGo,if_pos h]
theorem take_in {lo hi x b:Int} {r:List Int} {s:Pl.Rx} {f:Bool} (h:¬(x<lo∨hi≤x)) (h2:Pl.hasL s.l x=none∧s.n≤x):Pl.takeGo lo hi (b::r) x s f=Pl.takeGo lo hi r (x+1) (Pl.ordR ⟨s.n,s.u,Pl.putL s.l x b⟩) true:=by rw [Pl.takeGo,if_neg h,if_pos h2]
theorem take_had {lo hi x b:Int} {r:List Int} {s:Pl.Rx} {f:Bool} (h2:¬(Pl.hasL s.l x=none∧s.n≤x)):Pl.takeGo lo hi (b::r) x s f=Pl.takeGo lo hi r (x+1) s f:=by
 by_cases h:x<lo∨hi≤x
 · rw [Pl.takeGo,if_pos h]
 · rw [Pl.takeGo,if_neg h,if_neg h2]
theorem has_v {l:List Pl.Pc} {x v:Int} (hv:(Pl.hasL l x).getD (-1)=v) (hp:∀ p∈l,∀ b∈p.2,0≤b):(v<0↔Pl.hasL l x=none):=by
 cases h:Pl.hasL l x with
 | none=>rw [h] at hv;simp only [Option.getD_none] at hv;simp;omega
 | some b =>
  rw [h] at hv
  obtain ⟨p,h1,_,_,h4⟩:=Pl.has_mem h
  have:=hp p h1 b h4
  simp only [Option.getD_some] at hv
  simp;omega
end Go.Proofs.Ytkigcdmlkmcdcaa
