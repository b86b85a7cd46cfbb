/- The document's Copy: what its loop keeps. -/
import Derived.Test.YtkigcdmlkmcdcaaQZ
import Derived.Test.YtkigcdmlkmcdcaaQGI
import Derived.Test.YtkigcdmlkmcdcaaQGL
namespace Go.Proofs.Ytkigcdmlkmcdcaa
open Go.ChangeShapes Go.WideShapes Go.ChangeAt Go.RowKit
set_option linter.unusedVariables false
set_option linter.unusedSimpArgs false
structure CopTo (w0 wr:World) (r:Pl.Rv) (h k:Hd) (i:Nat):Prop where
 row:RowE wr (w0.heap.size+3) k.la i k.lc k.es
 tk:k.es.map En.pc=(h.es.take i).map En.pc
 fam:Fam wr (w0.heap.size+3) (⟨0,k.ua,k.uc,r.s.u⟩::k.es)
 ff:k.fa=h.fa∧k.fc=h.fc
 b1:Box wr w0.heap.size 27 (rvL r h)
 b2:Box wr (w0.heap.size+1) 27 zR
 b3:Box wr (w0.heap.size+1+1) 27 (rvL r k)
 bel:Below w0.heap.size w0 wr
 sz:w0.heap.size+3≤wr.heap.size
theorem cop_next {w0 wr Y w4:World} {r:Pl.Rv} {h k:Hd} {i:Nat} {x y:En} {va4:Option Addr} {vc4:Nat} (hc:CopTo w0 wr r h k i) (hx:h.es[i]? = some x) (hyx:y.pc=x.pc) (hY:Below wr.heap.size wr Y) (hy:y.mine Y wr.heap.size)
 (hrow:RowE w4 (w0.heap.size+3) va4 (i+1) vc4 (k.es++[y])) (hg:Y.grownBy w4 (Value.slice k.la i k.lc).ownBlock) :
 CopTo w0 (w4.setCell ⟨w0.heap.size+1+1,2,none⟩ (.slice va4 (i+1) vc4)) r h ⟨k.ua,k.uc,va4,vc4,k.es++[y],k.fa,k.fc⟩ (i+1):=by
 have hrY:=hc.row.later hY
 have hmv:∀ (k:Nat) (e:TypeId),e≠74→(∃ cur fr,Y.heap[k]? = some (.cells cur e fr))→w4.heap[k]? = Y.heap[k]?:=fun k e he ⟨cur,fr,h1⟩=>hg.block k (Array.getElem?_eq_some_iff.1 h1).1 (fun h2=>by
  obtain ⟨_,_,_,cur2,h3⟩:=zaj hrY (za6 h2.symm)
  exact he (za2 h1 h3))
 have hbox:∀ {g:Nat} {cs:List Value},Box wr g 27 cs→Box w4 g 27 cs:=fun {g cs} hb=>(hmv g 27 (by decide) ⟨_,_,hb.later hY⟩).trans (hb.later hY)
 have hfam:Fam Y (w0.heap.size+3) ((⟨0,k.ua,k.uc,r.s.u⟩::k.es)++[y]):=hc.fam.snoc hY hc.sz hy
 have hfam4:Fam w4 (w0.heap.size+3) ((⟨0,k.ua,k.uc,r.s.u⟩::k.es)++[y]):=hfam.moved (fun z hz j hj hl=>by
  obtain ⟨_,_,_,cur,e⟩:=(hfam.mine z hz).lies hl
  exact hmv j 5 (by decide) ⟨_,_,e⟩)
 have hsz:w0.heap.size+3≤w4.heap.size:=by have:=hc.sz;have:=hY.size;have:=hg.size;omega
 have hlen:(k.es++[y]).length=i+1:=hrow.len
 have hb3:=hbox hc.b3
 refine ⟨zas hrow _ _ _ (by omega),?_,?_,hc.ff,(hbox hc.b1).aside _ _ _ (by omega),(hbox hc.b2).aside _ _ _ (by omega),?_,?_,by simpa [World.setCell] using hsz⟩
 · rw [List.map_append,hc.tk,List.take_add_one,hx,List.map_append]
   simp [hyx]
 · have:=hfam4.beside hb3 (by decide) 2 (.slice va4 (i+1) vc4)
   simpa using this
 · have:=hb3.set 2 (.slice va4 (i+1) vc4)
   simp only [rvL,hlen]
   exact this
 · have hb3':Below (w0.heap.size+3) Y w4:=za4 (Below.refl _ Y) (by have:=hc.sz;have:=hY.size;omega) hrY hg
   have hb4:Below w0.heap.size wr w4:=(hY.mono hc.bel.size).trans (hb3'.mono (by omega))
   exact zar (hc.bel.trans hb4) _ _ _ (by omega)
end Go.Proofs.Ytkigcdmlkmcdcaa
