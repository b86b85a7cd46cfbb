/- The document's tell: what stands when some of the segment is laid. -/
import Derived.Test.YtkigcdmlkmcdcaaQZ
import Derived.Test.YtkigcdmlkmcdcaaQMRefCopy
import Derived.Test.YtkigcdmlkmcdcaaQGH
import Derived.Test.YtkigcdmlkmcdcaaQGM
namespace Go.Proofs.Ytkigcdmlkmcdcaa
open Go.ChangeShapes Go.WideShapes Go.ChangeAt Go.RowKit
set_option linter.unusedVariables false
set_option linter.unusedSimpArgs false
structure TelTo (w0 wx:World) (Bk:Nat) (Z:Nat→Prop) (cs:List Value) (p:Nat) (own ak wn:Int) (st:Bool) (ec:Int) (ka:Option Addr) (kn kc:Nat) (sk:List (Int×Int)):Prop where
 box:Box wx w0.heap.size 27 cs
 zr:Box wx (w0.heap.size+1) 27 zR
 zs:Box wx (w0.heap.size+1+1) 34 zS
 seg:Box wx p 34 [.int .i64 0,.int .i64 0,.int .u32 own,.int .u32 ak,.int .i64 16,.int .i64 wn,.int .i64 0,.int .i64 (-1),.int .i64 (-1),.bool false,.bool st,.int .u32 0,.int .u32 ec,.slice ka kn kc,.slice none 0 0]
 row:RowB wx Bk ka kn kc sk
 lie:∀ k,lies ka k→Z k∨w0.heap.size+3≤k
 ge:w0.heap.size+3≤p
 chg:Chg Z w0 wx
 hB:Bk≤w0.heap.size
theorem zfc {Z:Nat→Prop} {w0 wx:World} (h:Chg Z w0 wx) {p:Nat} (hp:w0.heap.size≤p) (j:Nat) (u:Value):Chg Z w0 (wx.setCell ⟨p,j,none⟩ u) :=
 ⟨zar h.flat _ _ _ (Nat.zero_le _),fun k hk hn=>(Below.heap_setCell wx ⟨p,j,none⟩ u k (by simp only;omega)).trans (h.same k hk hn)⟩
theorem chg_all {Z:Nat→Prop} {w0 wx:World} (h:Chg Z w0 wx) {p:Nat} (hp:w0.heap.size≤p) (i:Nat) (vs:List Value):Chg Z w0 (setAll wx p i vs) :=
 ⟨zaf (Nat.zero_le _) h.flat,fun k hk hn=>(zbw (by omega)).trans (h.same k hk hn)⟩
section
variable {w0 wx:World} {Bk:Nat} {Z:Nat→Prop} {cs:List Value} {p:Nat} {own ak wn:Int} {st:Bool} {ec:Int} {ka:Option Addr} {kn kc:Nat} {sk:List (Int×Int)}
theorem TelTo.later {wy:World} (h:TelTo w0 wx Bk Z cs p own ak wn st ec ka kn kc sk) (hb:Below wx.heap.size wx wy):TelTo w0 wy Bk Z cs p own ak wn st ec ka kn kc sk :=
 ⟨h.box.later hb,h.zr.later hb,h.zs.later hb,h.seg.later hb,h.row.later hb,h.lie,h.ge,h.chg.trans (Chg.of_below hb),h.hB⟩
theorem TelTo.set2 (h:TelTo w0 wx Bk Z cs p own ak wn st ec ka kn kc sk) (st':Bool) (ec':Int):TelTo w0 ((wx.setCell ⟨p,10,none⟩ (.bool st')).setCell ⟨p,12,none⟩ (.int .u32 ec')) Bk Z cs p own ak wn st' ec' ka kn kc sk:=by
 have hg:=h.ge
 have h1:Box (wx.setCell ⟨p,10,none⟩ (.bool st')) p 34 [.int .i64 0,.int .i64 0,.int .u32 own,.int .u32 ak,.int .i64 16,.int .i64 wn,.int .i64 0,.int .i64 (-1),.int .i64 (-1),.bool false,.bool st',.int .u32 0,.int .u32 ec,.slice ka kn kc,.slice none 0 0]:=h.seg.set 10 _
 exact ⟨(h.box.aside _ _ _ (by omega)).aside _ _ _ (by omega),(h.zr.aside _ _ _ (by omega)).aside _ _ _ (by omega),(h.zs.aside _ _ _ (by omega)).aside _ _ _ (by omega),h1.set 12 _,zan (zan h.row h.seg (by decide) _ _) h1 (by decide) _ _,h.lie,hg,zfc (zfc h.chg (by omega) _ _) (by omega) _ _,h.hB⟩
theorem tel_next {Y w2:World} {va:Option Addr} {vc:Nat} {sk':List (Int×Int)} (h:TelTo w0 wx Bk Z cs p own ak wn st ec ka kn kc sk) (hY:Below wx.heap.size wx Y) (hg:Y.grownBy w2 (Value.slice ka kn kc).ownBlock) (hR:RowB w2 Bk va (kn+1) vc sk') (hl:∀ k,lies va k→lies ka k∨Y.heap.size≤k) :
 TelTo w0 (w2.setCell ⟨p,13,none⟩ (.slice va (kn+1) vc)) Bk Z cs p own ak wn st ec va (kn+1) vc sk':=by
 have hrow:=h.row.later hY
 have hseg:=(h.seg.later hY).grown hrow (by decide) hg
 have hge:=h.ge
 have hpl:=h.seg.lt
 have hYs:=hY.size
 have c2:Chg Z w0 w2:=by
  have c0:Chg (fun k=>Z k∨w0.heap.size+3≤k) w0 Y:=(h.chg.mono (fun k _ hk=>.inl hk)).trans (Chg.of_below hY)
  exact (c0.trans (Chg.of_grown hg (fun k e=>h.lie k (za6 e)))).mono (fun k hk hz=>hz.elim id (fun h'=>absurd h' (by omega)))
 exact ⟨((h.box.later hY).grown hrow (by decide) hg).aside _ _ _ (by omega),((h.zr.later hY).grown hrow (by decide) hg).aside _ _ _ (by omega),((h.zs.later hY).grown hrow (by decide) hg).aside _ _ _ (by omega),hseg.set 13 _,zan hR hseg (by decide) _ _,
  fun k hk=>(hl k hk).elim (h.lie k) (fun h'=>.inr (by omega)),hge,zfc c2 (by omega) _ _,h.hB⟩
end
section
variable {w W0 w2:World} {cs:List Value} {own ak wn:Int} {Bk:Nat} {ba:Option Addr} {bn bc:Nat} {bl:List (Int×Int)}
end
theorem tel_C {w W0 w3:World} {cs zs:List Value} {own ak wn:Int} {Bk p:Nat} {ba:Option Addr} {bn bc:Nat} {bl:List (Int×Int)} (hX:Box W0 w.heap.size 27 cs) (hZ:Box W0 (w.heap.size+1) 27 zR) (hS:Box W0 (w.heap.size+1+1) 34 zS) (hs:W0.heap.size=w.heap.size+3) (b0:Below w.heap.size w W0) (hrow:RowB w Bk ba bn bc bl) (hBk:Bk≤w.heap.size) (hb:Below W0.heap.size W0 w3) (hp:W0.heap.size≤p) (hz:Box w3 p 34 zs) (hl:zs.length=15) {wx:World} (hwx:setAll w3 p 0 [.int .i64 0,.int .i64 0,.int .u32 own,.int .u32 ak,.int .i64 16,.int .i64 wn,.int .i64 0,.int .i64 (-1),.int .i64 (-1),.bool false,.bool false,.int .u32 0,.int .u32 0,.slice ba bn bc,.slice none 0 0]=wx) :
 TelTo w wx Bk (lies ba) cs p own ak wn false 0 ba bn bc bl:=by
 subst hwx
 exact ⟨(hX.later hb).putAside _ _ _ (by omega),(hZ.later hb).putAside _ _ _ (by omega),(hS.later hb).putAside _ _ _ (by omega),hz.put _ (by rw [hl];rfl),zav (hrow.later (Below.on b0 hb)) hz (by decide) _ _,fun k hk=>.inl hk,by omega,chg_all (Chg.of_below (Below.on b0 hb)) (by omega) _ _,hBk⟩
theorem zf8 {w:World} {ops:Array Oper} {o:Oper} {a:Act} {K:Act→World→Prop} {Q:Exit→Act→World→Prop} {E:Prop} (hgd:o.guard=none) (s x:Operand)
 (ho:o.op=.call { callee:=.builtin .append,args:=#[s,x],argTypes:=#[32,32]})
 (B:Nat) (va:Option Addr) (n vc:Nat) (xs:List (Int×Int)) (A:Addr) (y:Int×Int) (hs:a.eval s=.slice va n vc) (hx:a.eval x=.slice (some A) 1 1)
 (hO:RowB w B va n vc xs) (hB:B≤w.heap.size) (hT:∀ j u,[Value.int .u32 y.1,Value.int .u32 y.2][j]? = some u→w.cell? (A.add j)=some u) (hb:(n+1)*8≤140737488355328)
 (h:∀ va' vc' w',RowB w' B va' (n+1) vc' (xs++[y])→w.grownBy w' (Value.slice va n vc).ownBlock→(∀ k,lies va' k→lies va k∨w.heap.size≤k)→K (a.put o.dst (.slice va' (n+1) vc')) w') :
 if Region.wanted o (yielded ops a.tmps)=true then Oper.wp Try.prog o a w K Q else E:=by
 have hw:Region.wanted o (yielded ops a.tmps)=true:=by simp [Region.wanted,hgd]
 rw [if_pos hw]
 obtain ⟨i0,hi,hz0,hz1,hz2⟩:=info_parts Try.infoBl
 obtain ⟨v',w',hr,h1,h2,_,h5⟩:=run_append_own_at (P:=Try.prog) w B 32 o.type 62 i0 (.agg #[.int .u32 0,.int .u32 0]) 2 8 Try.underlying32 hi hz0 hz1 hz2 rfl (by decide) _ n _ hO A 1 1 [.int .u32 y.1,.int .u32 y.2] rfl hT two_oneB (by unfold maxLen;omega) hb hB
 rw [← zfx] at h1
 obtain ⟨va',vc',rfl,hR⟩:=rowB_of h1
 unfold Oper.wp execOp
 simp only [ho,resolve,invoke,builtin,Sem.run_bind,Sem.run_pure,Result.andThen_ok,List.map_toArray,List.map_cons,List.map_nil,hs,hx,hr]
 refine h va' vc' w' hR h2 (fun k hk=>?_)
 rw [zdl hR hk] at h5
 rcases h5 with h|h
 · exact .inl (za6 h.symm)
 · cases h;exact .inr (Nat.le_refl _)
theorem tel_grown {w0 wx Y w2:World} {Bk:Nat} {Z:Nat→Prop} {cs:List Value} {p:Nat} {own ak wn:Int} {st:Bool} {ec:Int} {ka:Option Addr} {kn kc:Nat} {sk:List (Int×Int)} (h:TelTo w0 wx Bk Z cs p own ak wn st ec ka kn kc sk) (hY:Below wx.heap.size wx Y) (hg:Y.grownBy w2 (Value.slice ka kn kc).ownBlock) :
 Box w2 w0.heap.size 27 cs∧Box w2 p 34 [.int .i64 0,.int .i64 0,.int .u32 own,.int .u32 ak,.int .i64 16,.int .i64 wn,.int .i64 0,.int .i64 (-1),.int .i64 (-1),.bool false,.bool st,.int .u32 0,.int .u32 ec,.slice ka kn kc,.slice none 0 0]∧Chg Z w0 w2:=by
 have hrow:=h.row.later hY
 have hge:=h.ge
 refine ⟨(h.box.later hY).grown hrow (by decide) hg,(h.seg.later hY).grown hrow (by decide) hg,?_⟩
 have c0:Chg (fun k=>Z k∨w0.heap.size+3≤k) w0 Y:=(h.chg.mono (fun k _ hk=>.inl hk)).trans (Chg.of_below hY)
 exact (c0.trans (Chg.of_grown hg (fun k e=>h.lie k (za6 e)))).mono (fun k hk hz=>hz.elim id (fun h'=>absurd h' (by omega)))
theorem zd6 {w:World} {ops:Array Oper} {o:Oper} {a:Act} {K:Act→World→Prop} {Q:Exit→Act→World→Prop} {E:Prop} (hgd:o.guard=none) (p q:Operand) (ho:o.op=.store 34 p q) (own ak wn:Int) (st:Bool) (ec:Int) (ka:Option Addr) (kn kc:Nat) (g:Nat) {cs:List Value} (hl:cs.length=15) (hp:a.eval p=.pointer (some ⟨g,0,none⟩)) (hq:a.eval q=.agg #[.int .i64 0,.int .i64 0,.int .u32 own,.int .u32 ak,.int .i64 16,.int .i64 wn,.int .i64 0,.int .i64 (-1),.int .i64 (-1),.bool false,.bool st,.int .u32 0,.int .u32 ec,.slice ka kn kc,.slice none 0 0]) (hb:Box w g 34 cs)
 {X:World} (hX:setAll w g 0 [.int .i64 0,.int .i64 0,.int .u32 own,.int .u32 ak,.int .i64 16,.int .i64 wn,.int .i64 0,.int .i64 (-1),.int .i64 (-1),.bool false,.bool st,.int .u32 0,.int .u32 ec,.slice ka kn kc,.slice none 0 0]=X) (hk:∀ v,K (a.put o.dst v) X) :
 if Region.wanted o (yielded ops a.tmps)=true then Oper.wp Try.prog o a w K Q else E:=by
 subst hX
 match cs,hl,hb with
 | [c0,c1,c2,c3,c4,c5,c6,c7,c8,c9,c10,c11,c12,c13,c14],_,hb =>
  have hw:Region.wanted o (yielded ops a.tmps)=true:=by simp [Region.wanted,hgd]
  rw [if_pos hw]
  obtain ⟨d0,d1,d2,d3,d4,d5,d6,d7,d8,d9,d10,d11,d12,d13,d14⟩:=Box.c15 hb
  obtain ⟨f0,f1,f2,f3,f4,f5,f6,f7,f8,f9,f10,f11,f12,f13,f14⟩:=Box.f15 hb
  unfold Oper.wp execOp
  simp only [ho,hp,hq]
  go_simp
  exact hk _
def refSk (irs:Int) (stamps sacks:Bool) (bl:List (Int×Int)) (fs:List Tm):List (Int×Int):=if sacks=true then bl++(fs.take ((if stamps=true then 3 else 4)-bl.length)).map (blkI irs) else bl
theorem refSk_nil (irs:Int) (stamps sacks:Bool) (fs:List Tm):refSk irs stamps sacks [] fs=sackL irs stamps sacks fs:=by
 unfold refSk sackL
 simp
theorem refSk_end {irs:Int} {stamps sacks:Bool} {bl:List (Int×Int)} {fl:List Tm} {room bn m i:Nat} (hr:(if stamps=true then 3 else 4)=room) (hb:bl.length=bn) (hm:fl.length=m) (hi:i≤m) (hir:bn+i≤room) (hs:i=0∨sacks=true) (hc:¬(i<m∧sacks=true∧bn+i<room)):refSk irs stamps sacks bl fl=bl++(fl.take i).map (blkI irs):=by
 unfold refSk
 rw [hr,hb]
 cases sacks with
 | false =>
  rcases hs with rfl|h
  · simp
  · cases h
 | true =>
  rw [if_pos rfl]
  congr 2
  by_cases h1:i<m
  · have:room-bn=i:=by
     by_cases h2:bn+i<room
     · exact absurd ⟨h1,rfl,h2⟩ hc
     · omega
    rw [this]
  · rw [List.take_of_length_le (by omega),List.take_of_length_le (by omega)]
theorem ad_one (a n:Int):Pl.adI a (n+1)=Pl.adI (Pl.adI a n) 1:=by unfold Pl.adI;omega
end Go.Proofs.Ytkigcdmlkmcdcaa
