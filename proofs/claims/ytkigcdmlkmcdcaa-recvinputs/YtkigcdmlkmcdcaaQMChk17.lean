/- The document's Check: region 17. -/
import Derived.Test.YtkigcdmlkmcdcaaQZ
import Derived.Test.YtkigcdmlkmcdcaaQMChk10
import Derived.Test.YtkigcdmlkmcdcaaQMDetU
namespace Go.Proofs.Ytkigcdmlkmcdcaa
open Go.ChangeShapes Go.WideShapes Go.ChangeAt Go.RowKit
set_option linter.unusedVariables false
set_option linter.unusedSimpArgs false
theorem enter_in (args:Array Value) (w:World):(callFunc 47 args).run Try.prog w=.ok (.enter 47 args) w:=by kernel_rfl
def zbe (ps:String):Nat→Oper
 | 0=>⟨some 161,.fieldAddr 27 (.tmp 1) 11,0,ps,#[],none⟩
 | 1=>⟨some 162,.load 25 (.tmp 161),25,ps,#[⟨0,.data⟩],none⟩
 | 2=>⟨some 163,.move (.tmp 7),3,ps,#[],none⟩
 | 3=>⟨some 164,.indexAddr 25 (.tmp 162) (.tmp 163),0,ps,#[⟨1,.data⟩,⟨2,.data⟩],none⟩
 | 4=>⟨some 165,.load 78 (.tmp 164),78,ps,#[⟨3,.data⟩],none⟩
 | 5=>⟨some 166,.move (.tmp 6),25,ps,#[],none⟩
 | 6=>⟨some 167,.call { callee:=.value (.func 47),args:=#[.tmp 165,.tmp 166],argTypes:=#[78,25]},4,ps,#[⟨4,.data⟩,⟨5,.data⟩],none⟩
 | 7=>⟨some 168,.unOp .not 4 (.tmp 167),4,ps,#[⟨6,.data⟩],none⟩
 | 8=>⟨some 169,.move (.tmp 168),4,ps,#[⟨7,.data⟩,⟨6,.chain⟩],none⟩
 | 9=>⟨some 170,.fieldAddr 27 (.tmp 1) 11,0,ps,#[⟨8,.guard⟩],some (8,false)⟩
 | 10=>⟨some 171,.load 25 (.tmp 170),25,ps,#[⟨9,.data⟩,⟨8,.guard⟩],some (8,false)⟩
 | 11=>⟨some 172,.move (.tmp 7),3,ps,#[⟨8,.guard⟩],some (8,false)⟩
 | 12=>⟨some 173,.indexAddr 25 (.tmp 171) (.tmp 172),0,ps,#[⟨10,.data⟩,⟨11,.data⟩,⟨8,.guard⟩],some (8,false)⟩
 | 13=>⟨some 174,.load 78 (.tmp 173),78,ps,#[⟨12,.data⟩,⟨8,.guard⟩],some (8,false)⟩
 | 14=>⟨some 175,.fieldAddr 27 (.tmp 1) 11,0,ps,#[⟨8,.guard⟩],some (8,false)⟩
 | 15=>⟨some 176,.load 25 (.tmp 175),25,ps,#[⟨14,.data⟩,⟨8,.guard⟩],some (8,false)⟩
 | 16=>⟨some 177,.move (.tmp 7),3,ps,#[⟨8,.guard⟩],some (8,false)⟩
 | 17=>⟨some 178,.slice 25 (.tmp 176) none (some (.tmp 177)) none,25,ps,#[⟨15,.data⟩,⟨16,.data⟩,⟨8,.guard⟩],some (8,false)⟩
 | 18=>⟨some 179,.call { callee:=.value (.func 47),args:=#[.tmp 174,.tmp 178],argTypes:=#[78,25]},4,ps,#[⟨13,.data⟩,⟨17,.data⟩,⟨8,.chain⟩,⟨8,.guard⟩],some (8,false)⟩
 | _=>⟨some 180,.pick (.tmp 169) (.const (.bool true)) (.tmp 179),4,ps,#[⟨8,.data⟩,⟨18,.data⟩],none⟩
def chk17 (ps:String):Array Oper:=#[zbe ps 0,zbe ps 1,zbe ps 2,zbe ps 3,zbe ps 4,zbe ps 5,zbe ps 6,zbe ps 7,zbe ps 8,zbe ps 9,zbe ps 10,zbe ps 11,zbe ps 12,zbe ps 13,zbe ps 14,zbe ps 15,zbe ps 16,zbe ps 17,zbe ps 18,zbe ps 19]
theorem zdn (ps:String):∀ i,i<20→(chk17 ps)[i]? = some (zbe ps i)
 | 0,_|1,_|2,_|3,_|4,_|5,_|6,_|7,_|8,_|9,_|10,_|11,_|12,_|13,_|14,_|15,_|16,_|17,_|18,_|19,_=>rfl
 | i+20,h=>absurd h (by omega)
def chk17D:Nat→Option Tmp
 | 0=>some 161
 | 1=>some 162
 | 2=>some 163
 | 3=>some 164
 | 4=>some 165
 | 5=>some 166
 | 6=>some 167
 | 7=>some 168
 | 8=>some 169
 | 9=>some 170
 | 10=>some 171
 | 11=>some 172
 | 12=>some 173
 | 13=>some 174
 | 14=>some 175
 | 15=>some 176
 | 16=>some 177
 | 17=>some 178
 | 18=>some 179
 | 19=>some 180
 | _=>none
def zcy (r:Pl.Rv) (h:Hd) (g fb fo j sn sc:Nat) (sa:Option Addr) (x:Tm) (b101 b102 d7 d19:Bool):Nat→Value
 | 0=>.pointer (some ⟨g,11,none⟩)
 | 1=>.slice (some ⟨fb,fo,none⟩) r.first.length h.fc
 | 2=>.int .i64 (j:Int)
 | 3=>.pointer (some ⟨fb,fo+j*2,none⟩)
 | 4=>.agg #[.int .i64 x.1,.int .i64 x.2]
 | 5=>.slice sa sn sc
 | 6=>.bool b101
 | 7=>.bool d7
 | 8=>.bool d7
 | 9=>cond (!d7) (.pointer (some ⟨g,11,none⟩)) undef
 | 10=>cond (!d7) (.slice (some ⟨fb,fo,none⟩) r.first.length h.fc) undef
 | 11=>cond (!d7) (.int .i64 (j:Int)) undef
 | 12=>cond (!d7) (.pointer (some ⟨fb,fo+j*2,none⟩)) undef
 | 13=>cond (!d7) (.agg #[.int .i64 x.1,.int .i64 x.2]) undef
 | 14=>cond (!d7) (.pointer (some ⟨g,11,none⟩)) undef
 | 15=>cond (!d7) (.slice (some ⟨fb,fo,none⟩) r.first.length h.fc) undef
 | 16=>cond (!d7) (.int .i64 (j:Int)) undef
 | 17=>cond (!d7) (.slice (some ⟨fb,fo,none⟩) j h.fc) undef
 | 18=>cond (!d7) (.bool b102) undef
 | 19=>.bool d19
 | _=>undef
set_option maxRecDepth 100000 in
set_option maxHeartbeats 4000000 in
theorem chk17_reg {ps:String} {Q:Exit→Act→World→Prop} {a0:Act} {W0:World} (sz:a0.tmps.size=199) (r:Pl.Rv) (h:Hd) (g fb fo j sn sc:Nat) (sa:Option Addr) (x:Tm)
 (e1:a0.eval (.tmp 1)=.pointer (some ⟨g,0,none⟩)) (e6:a0.eval (.tmp 6)=.slice sa sn sc) (e7:a0.eval (.tmp 7)=.int .i64 (j:Int))
 (sp:List Tm) {b101 b102:Bool} (hb:Box W0 g 27 (rvL r h)) (hfa:h.fa=some ⟨fb,fo,none⟩) (hj:(j:Int)<(r.first.length:Int)) (hjc:j≤h.fc) (hc1:W0.cell? ⟨fb,fo+j*2,none⟩=some (.int .i64 x.1)) (hc2:W0.cell? ⟨fb,fo+j*2+1,none⟩=some (.int .i64 x.2)) (hts:za0 W0 sa sp) (htf:za0 W0 (some ⟨fb,fo,none⟩) (r.first.take j)) (hsn:sp.length=sn) (hjn:(r.first.take j).length=j) (hsl:∀ W,(Instr.slice 25 (.slice (some ⟨fb,fo,none⟩) r.first.length h.fc) none (some (.int .i64 (j:Int))) none).run Try.prog W=.ok (.slice (some ⟨fb,fo,none⟩) j h.fc) W)
 (hb101:decide (x∈sp)=b101) (hb102:decide (x∈r.first.take j)=b102) {d7 d19:Bool} (hd7:(!b101)=d7)
 (hd19:(d7 || b102)=d19)
 (hfin:∀ (T:Nat→Value) w,T 19=.bool d19→(fun w=>Box w g 27 (rvL r h)∧Below W0.heap.size W0 w∧w.cell? ⟨fb,fo+j*2,none⟩=some (.int .i64 x.1)∧w.cell? ⟨fb,fo+j*2+1,none⟩=some (.int .i64 x.2)∧za0 w sa sp∧za0 w (some ⟨fb,fo,none⟩) (r.first.take j)) w→Q .normal ((((((((((((((((((((a0.put (some 161) (T 0)).put (some 162) (T 1)).put (some 163) (T 2)).put (some 164) (T 3)).put (some 165) (T 4)).put (some 166) (T 5)).put (some 167) (T 6)).put (some 168) (T 7)).put (some 169) (T 8)).put (some 170) (T 9)).put (some 171) (T 10)).put (some 172) (T 11)).put (some 173) (T 12)).put (some 174) (T 13)).put (some 175) (T 14)).put (some 176) (T 15)).put (some 177) (T 16)).put (some 178) (T 17)).put (some 179) (T 18)).put (some 180) (T 19)) w) :
 (Code.region 17 (chk17 ps) true).wp Try.prog Q a0 W0:=by
 refine zby (by kernel_rfl) 20 rfl chk17D ?_ (by decide) (zcy r h g fb fo j sn sc sa x b101 b102 d7 d19) (fun w=>Box w g 27 (rvL r h)∧Below W0.heap.size W0 w∧w.cell? ⟨fb,fo+j*2,none⟩=some (.int .i64 x.1)∧w.cell? ⟨fb,fo+j*2+1,none⟩=some (.int .i64 x.2)∧za0 w sa sp∧za0 w (some ⟨fb,fo,none⟩) (r.first.take j)) ⟨hb.of_heap rfl,Below.drew (Below.refl _ _),hc1,hc2,hts.later (Below.drew (Below.refl _ _)),htf.later (Below.drew (Below.refl _ _))⟩ ?_ (by rfl) (fun w hSw=>hfin (zcy r h g fb fo j sn sc sa x b101 b102 d7 d19) w rfl hSw)
 · intro jq t hj ht
   have:∀ j,j<20→(chk17D j).all (· < 199)=true:=by decide
   have:=this jq hj
   rw [ht] at this
   rw [sz]
   simpa using this
 · intro iq o ho a w hSw hs hel K hK
   have hin:iq<20:=(Array.getElem?_eq_some_iff.1 ho).1
   have u1:a.eval (.tmp 1)=.pointer (some ⟨g,0,none⟩):=(hel 1 (by decide)).trans e1
   have u6:a.eval (.tmp 6)=.slice sa sn sc:=(hel 6 (by decide)).trans e6
   have u7:a.eval (.tmp 7)=.int .i64 (j:Int):=(hel 7 (by decide)).trans e7
   have q0:=(hSw.1.cell 11 rfl).trans (by rw [hfa])
   have q1:=And.intro hSw.2.2.1 hSw.2.2.2.1
   obtain rfl:=Option.some.inj (ho.symm.trans (zdn ps iq hin))
   match iq,hin,ho with
   | 0,_,ho|1,_,ho|2,_,ho|3,_,ho|4,_,ho|5,_,ho|8,_,ho =>
    have hz:=zcx hs
    simp only [zbe,AllA,chk17D,zcy,Region.binds] at hz
    exact zal ho rfl (by unfold zbe execOp;simp only [hz,u1,u6,u7,zcy];first|(go_simp;done)|(go_simp;with_reducible rfl)) (hK w hSw)
   | 9,_,ho|10,_,ho|11,_,ho|12,_,ho|13,_,ho|14,_,ho|15,_,ho|16,_,ho =>
    have hz:=zcx hs
    simp only [zbe,AllA,chk17D,zcy,Region.binds] at hz
    exact op_gn ho rfl (zdn ps _ (by decide)) rfl (by simp only [hz]) (fun hc=>by subst hc;unfold zbe execOp;simp only [hz,u1,u6,u7,Bool.not_false,cond_true];first|(go_simp;done)|(go_simp;with_reducible rfl)) (hK w hSw)
   | 6,_,ho =>
   have s4:=hs 4 165 (by rfl) rfl
   have s5:=hs 5 166 (by rfl) rfl
   (try simp only [zcy,cond_true,cond_false,Bool.not_true,Bool.not_false,Bool.and_true,Bool.true_and,Bool.and_false,Bool.false_and] at s4 s5)
   exact zbr ho rfl (f:=47) (args:=#[.agg #[.int .i64 x.1,.int .i64 x.2],.slice sa sn sc]) (by rw [zbz rfl enter_in];simp only [List.map_toArray,List.map_cons,List.map_nil,s4,s5];try rfl) ((zfn x sa sc sp w hSw.2.2.2.2.1 sn hsn b101 hb101).mono (fun e w' hh=>⟨_,hh.1,hK w' ⟨hSw.1.later hh.2,Below.on hSw.2.1 hh.2,(hh.2.cell (p:=⟨fb,fo+j*2,none⟩) (zac hSw.2.2.1)).trans hSw.2.2.1,(hh.2.cell (p:=⟨fb,fo+j*2+1,none⟩) (zac hSw.2.2.2.1)).trans hSw.2.2.2.1,hSw.2.2.2.2.1.later hh.2,hSw.2.2.2.2.2.later hh.2⟩⟩))
   | 7,_,ho =>
   have s6:=hs 6 167 (by rfl) rfl
   (try simp only [zcy,cond_true,cond_false,Bool.not_true,Bool.not_false,Bool.and_true,Bool.true_and,Bool.and_false,Bool.false_and] at s6)
   subst hd7
   exact zal ho rfl (by unfold zbe execOp;simp only [s6,zcy,cond_true,cond_false,Bool.not_true,Bool.not_false,Bool.and_true,Bool.true_and,Bool.and_false,Bool.false_and];first|(go_simp;done)|(go_simp;with_reducible rfl)) (hK w hSw)
   | 17,_,ho =>
   have s15:=hs 15 176 (by rfl) rfl
   have s16:=hs 16 177 (by rfl) rfl
   have s8:=hs 8 169 (by rfl) rfl
   have hcl:=hsl
   cases d7
   all_goals ((try simp only [zcy,cond_true,cond_false,Bool.not_true,Bool.not_false,Bool.and_true,Bool.true_and,Bool.and_false,Bool.false_and] at s15 s16 s8);first|(exact zat ho (by rw [zae rfl (zdn ps 8 (by decide)) rfl s8];rfl) (hK w hSw))|(exact zal ho (by rw [zae rfl (zdn ps 8 (by decide)) rfl s8];rfl) (run_sliceH (e:=78) (by kernel_rfl) rfl s15 s16 hsl w) (hK w hSw)))
   | 18,_,ho =>
   have s13:=hs 13 174 (by rfl) rfl
   have s17:=hs 17 178 (by rfl) rfl
   have s8:=hs 8 169 (by rfl) rfl
   cases d7
   all_goals ((try simp only [zcy,cond_true,cond_false,Bool.not_true,Bool.not_false,Bool.and_true,Bool.true_and,Bool.and_false,Bool.false_and] at s13 s17 s8);first|(exact zat ho (by rw [zae rfl (zdn ps 8 (by decide)) rfl s8];rfl) (hK w hSw))|(exact zbr ho (by rw [zae rfl (zdn ps 8 (by decide)) rfl s8];rfl) (f:=47) (args:=#[.agg #[.int .i64 x.1,.int .i64 x.2],.slice (some ⟨fb,fo,none⟩) j h.fc]) (by rw [zbz rfl enter_in];simp only [List.map_toArray,List.map_cons,List.map_nil,s13,s17];try rfl) ((zfn x (some ⟨fb,fo,none⟩) h.fc (r.first.take j) w hSw.2.2.2.2.2 j hjn b102 hb102).mono (fun e w' hh=>⟨_,hh.1,hK w' ⟨hSw.1.later hh.2,Below.on hSw.2.1 hh.2,(hh.2.cell (p:=⟨fb,fo+j*2,none⟩) (zac hSw.2.2.1)).trans hSw.2.2.1,(hh.2.cell (p:=⟨fb,fo+j*2+1,none⟩) (zac hSw.2.2.2.1)).trans hSw.2.2.2.1,hSw.2.2.2.2.1.later hh.2,hSw.2.2.2.2.2.later hh.2⟩⟩))))
   | 19,_,ho =>
   have s8:=hs 8 169 (by rfl) rfl
   have s18:=hs 18 179 (by rfl) rfl
   cases d7
   all_goals ((try simp only [zcy,cond_true,cond_false,Bool.not_true,Bool.not_false,Bool.and_true,Bool.true_and,Bool.and_false,Bool.false_and] at s8 s18);(try (simp only [Bool.true_or,Bool.false_or,Bool.true_and,Bool.false_and] at hd19;subst hd19));exact zal ho rfl (by unfold zbe execOp;simp only [s8,s18,zcy,cond_true,cond_false,Bool.not_true,Bool.not_false,Bool.and_true,Bool.true_and,Bool.and_false,Bool.false_and];first|(go_simp;done)|(go_simp;with_reducible rfl)) (hK w hSw))
   | iq+20,hin,_=>exact absurd hin (by omega)
end Go.Proofs.Ytkigcdmlkmcdcaa
