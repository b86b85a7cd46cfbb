/- The document's Check: region 10. -/
import Derived.Test.YtkigcdmlkmcdcaaQZ
import Derived.Test.YtkigcdmlkmcdcaaQMChk3
import Derived.Test.YtkigcdmlkmcdcaaQMDetU
namespace Go.Proofs.Ytkigcdmlkmcdcaa
open Go.ChangeShapes Go.WideShapes Go.ChangeAt Go.RowKit
set_option linter.unusedVariables false
set_option linter.unusedSimpArgs false
theorem enter_limit (args:Array Value) (w:World):(callFunc 41 args).run Try.prog w=.ok (.enter 41 args) w:=by kernel_rfl
def zao (ps:String):Nat→Oper
 | 0=>⟨some 100,.move (.tmp 5),3,ps,#[],none⟩
 | 1=>⟨some 101,.binOp .lss 3 (.tmp 100) (.const (.int .i64 1)) 3,4,ps,#[⟨0,.data⟩],none⟩
 | 2=>⟨some 102,.move (.tmp 101),4,ps,#[⟨1,.data⟩],none⟩
 | 3=>⟨some 103,.fieldAddr 27 (.tmp 1) 2,0,ps,#[⟨2,.guard⟩],some (2,false)⟩
 | 4=>⟨some 104,.load 23 (.tmp 103),23,ps,#[⟨3,.data⟩,⟨2,.guard⟩],some (2,false)⟩
 | 5=>⟨some 105,.move (.tmp 4),3,ps,#[⟨2,.guard⟩],some (2,false)⟩
 | 6=>⟨some 106,.indexAddr 23 (.tmp 104) (.tmp 105),0,ps,#[⟨4,.data⟩,⟨5,.data⟩,⟨2,.guard⟩],some (2,false)⟩
 | 7=>⟨some 107,.fieldAddr 74 (.tmp 106) 0,0,ps,#[⟨6,.data⟩,⟨2,.guard⟩],some (2,false)⟩
 | 8=>⟨some 108,.load 3 (.tmp 107),3,ps,#[⟨7,.data⟩,⟨2,.guard⟩],some (2,false)⟩
 | 9=>⟨some 109,.move (.tmp 3),3,ps,#[⟨2,.guard⟩],some (2,false)⟩
 | 10=>⟨some 110,.binOp .leq 3 (.tmp 108) (.tmp 109) 3,4,ps,#[⟨8,.data⟩,⟨9,.data⟩,⟨2,.guard⟩],some (2,false)⟩
 | 11=>⟨some 111,.pick (.tmp 102) (.const (.bool true)) (.tmp 110),4,ps,#[⟨2,.data⟩,⟨10,.data⟩],none⟩
 | 12=>⟨some 112,.move (.tmp 111),4,ps,#[⟨11,.data⟩,⟨2,.chain⟩],none⟩
 | 13=>⟨some 113,.fieldAddr 27 (.tmp 1) 2,0,ps,#[⟨12,.guard⟩],some (12,false)⟩
 | 14=>⟨some 114,.load 23 (.tmp 113),23,ps,#[⟨13,.data⟩,⟨12,.guard⟩],some (12,false)⟩
 | 15=>⟨some 115,.move (.tmp 4),3,ps,#[⟨12,.guard⟩],some (12,false)⟩
 | 16=>⟨some 116,.indexAddr 23 (.tmp 114) (.tmp 115),0,ps,#[⟨14,.data⟩,⟨15,.data⟩,⟨12,.guard⟩],some (12,false)⟩
 | 17=>⟨some 117,.fieldAddr 74 (.tmp 116) 0,0,ps,#[⟨16,.data⟩,⟨12,.guard⟩],some (12,false)⟩
 | 18=>⟨some 118,.load 3 (.tmp 117),3,ps,#[⟨17,.data⟩,⟨12,.guard⟩],some (12,false)⟩
 | 19=>⟨some 119,.load 27 (.tmp 1),27,ps,#[⟨12,.guard⟩],some (12,false)⟩
 | 20=>⟨some 120,.call { callee:=.value (.func 41),args:=#[.tmp 119],argTypes:=#[27]},3,ps,#[⟨19,.data⟩,⟨12,.chain⟩,⟨12,.guard⟩],some (12,false)⟩
 | 21=>⟨some 121,.move (.tmp 5),3,ps,#[⟨12,.guard⟩],some (12,false)⟩
 | 22=>⟨some 122,.binOp .sub 3 (.tmp 120) (.tmp 121) 3,3,ps,#[⟨20,.data⟩,⟨21,.data⟩,⟨12,.guard⟩],some (12,false)⟩
 | 23=>⟨some 123,.binOp .gtr 3 (.tmp 118) (.tmp 122) 3,4,ps,#[⟨18,.data⟩,⟨22,.data⟩,⟨12,.guard⟩],some (12,false)⟩
 | 24=>⟨some 124,.pick (.tmp 112) (.const (.bool true)) (.tmp 123),4,ps,#[⟨12,.data⟩,⟨23,.data⟩],none⟩
 | 25=>⟨some 125,.move (.tmp 124),4,ps,#[⟨24,.data⟩,⟨20,.chain⟩],none⟩
 | 26=>⟨some 126,.fieldAddr 27 (.tmp 1) 9,0,ps,#[⟨25,.guard⟩],some (25,false)⟩
 | 27=>⟨some 127,.load 3 (.tmp 126),3,ps,#[⟨26,.data⟩,⟨25,.guard⟩],some (25,false)⟩
 | 28=>⟨some 128,.binOp .geq 3 (.tmp 127) (.const (.int .i64 0)) 3,4,ps,#[⟨27,.data⟩,⟨25,.guard⟩],some (25,false)⟩
 | 29=>⟨some 129,.move (.tmp 128),4,ps,#[⟨28,.data⟩,⟨25,.chain⟩,⟨25,.guard⟩],some (25,false)⟩
 | 30=>⟨some 130,.fieldAddr 27 (.tmp 1) 2,0,ps,#[⟨29,.guard⟩],some (29,true)⟩
 | 31=>⟨some 131,.load 23 (.tmp 130),23,ps,#[⟨30,.data⟩,⟨29,.guard⟩],some (29,true)⟩
 | 32=>⟨some 132,.move (.tmp 4),3,ps,#[⟨29,.guard⟩],some (29,true)⟩
 | 33=>⟨some 133,.indexAddr 23 (.tmp 131) (.tmp 132),0,ps,#[⟨31,.data⟩,⟨32,.data⟩,⟨29,.guard⟩],some (29,true)⟩
 | 34=>⟨some 134,.fieldAddr 74 (.tmp 133) 0,0,ps,#[⟨33,.data⟩,⟨29,.guard⟩],some (29,true)⟩
 | 35=>⟨some 135,.load 3 (.tmp 134),3,ps,#[⟨34,.data⟩,⟨29,.guard⟩],some (29,true)⟩
 | 36=>⟨some 136,.fieldAddr 27 (.tmp 1) 9,0,ps,#[⟨29,.guard⟩],some (29,true)⟩
 | 37=>⟨some 137,.load 3 (.tmp 136),3,ps,#[⟨36,.data⟩,⟨29,.guard⟩],some (29,true)⟩
 | 38=>⟨some 138,.move (.tmp 5),3,ps,#[⟨29,.guard⟩],some (29,true)⟩
 | 39=>⟨some 139,.binOp .sub 3 (.tmp 137) (.tmp 138) 3,3,ps,#[⟨37,.data⟩,⟨38,.data⟩,⟨29,.guard⟩],some (29,true)⟩
 | 40=>⟨some 140,.binOp .gtr 3 (.tmp 135) (.tmp 139) 3,4,ps,#[⟨35,.data⟩,⟨39,.data⟩,⟨29,.guard⟩],some (29,true)⟩
 | 41=>⟨some 141,.pick (.tmp 129) (.tmp 140) (.const (.bool false)),4,ps,#[⟨29,.data⟩,⟨40,.data⟩,⟨25,.guard⟩],some (25,false)⟩
 | _=>⟨some 142,.pick (.tmp 125) (.const (.bool true)) (.tmp 141),4,ps,#[⟨25,.data⟩,⟨41,.data⟩],none⟩
def chk10 (ps:String):Array Oper:=#[zao ps 0,zao ps 1,zao ps 2,zao ps 3,zao ps 4,zao ps 5,zao ps 6,zao ps 7,zao ps 8,zao ps 9,zao ps 10,zao ps 11,zao ps 12,zao ps 13,zao ps 14,zao ps 15,zao ps 16,zao ps 17,zao ps 18,zao ps 19,zao ps 20,zao ps 21,zao ps 22,zao ps 23,zao ps 24,zao ps 25,zao ps 26,zao ps 27,zao ps 28,zao ps 29,zao ps 30,zao ps 31,zao ps 32,zao ps 33,zao ps 34,zao ps 35,zao ps 36,zao ps 37,zao ps 38,zao ps 39,zao ps 40,zao ps 41,zao ps 42]
theorem zay (ps:String):∀ i,i<43→(chk10 ps)[i]? = some (zao ps i)
 | 0,_|1,_|2,_|3,_|4,_|5,_|6,_|7,_|8,_|9,_|10,_|11,_|12,_|13,_|14,_|15,_|16,_|17,_|18,_|19,_|20,_|21,_|22,_|23,_|24,_|25,_|26,_|27,_|28,_|29,_|30,_|31,_|32,_|33,_|34,_|35,_|36,_|37,_|38,_|39,_|40,_|41,_|42,_=>rfl
 | i+43,h=>absurd h (by omega)
def chk10D:Nat→Option Tmp
 | 0=>some 100
 | 1=>some 101
 | 2=>some 102
 | 3=>some 103
 | 4=>some 104
 | 5=>some 105
 | 6=>some 106
 | 7=>some 107
 | 8=>some 108
 | 9=>some 109
 | 10=>some 110
 | 11=>some 111
 | 12=>some 112
 | 13=>some 113
 | 14=>some 114
 | 15=>some 115
 | 16=>some 116
 | 17=>some 117
 | 18=>some 118
 | 19=>some 119
 | 20=>some 120
 | 21=>some 121
 | 22=>some 122
 | 23=>some 123
 | 24=>some 124
 | 25=>some 125
 | 26=>some 126
 | 27=>some 127
 | 28=>some 128
 | 29=>some 129
 | 30=>some 130
 | 31=>some 131
 | 32=>some 132
 | 33=>some 133
 | 34=>some 134
 | 35=>some 135
 | 36=>some 136
 | 37=>some 137
 | 38=>some 138
 | 39=>some 139
 | 40=>some 140
 | 41=>some 141
 | 42=>some 142
 | _=>none
def za7 (r:Pl.Rv) (h:Hd) (g pb po i m:Nat) (f last:Int) (b1 b10 d11 b23 d24 b28 b40 d41 d42:Bool):Nat→Value
 | 0=>.int .i64 (m:Int)
 | 1=>.bool b1
 | 2=>.bool b1
 | 3=>cond (!b1) (.pointer (some ⟨g,2,none⟩)) undef
 | 4=>cond (!b1) (.slice (some ⟨pb,po,none⟩) h.es.length h.lc) undef
 | 5=>cond (!b1) (.int .i64 (i:Int)) undef
 | 6=>cond (!b1) (.pointer (some ⟨pb,po+i*2,none⟩)) undef
 | 7=>cond (!b1) (.pointer (some ⟨pb,po+i*2,none⟩)) undef
 | 8=>cond (!b1) (.int .i64 f) undef
 | 9=>cond (!b1) (.int .i64 last) undef
 | 10=>cond (!b1) (.bool b10) undef
 | 11=>.bool d11
 | 12=>.bool d11
 | 13=>cond (!d11) (.pointer (some ⟨g,2,none⟩)) undef
 | 14=>cond (!d11) (.slice (some ⟨pb,po,none⟩) h.es.length h.lc) undef
 | 15=>cond (!d11) (.int .i64 (i:Int)) undef
 | 16=>cond (!d11) (.pointer (some ⟨pb,po+i*2,none⟩)) undef
 | 17=>cond (!d11) (.pointer (some ⟨pb,po+i*2,none⟩)) undef
 | 18=>cond (!d11) (.int .i64 f) undef
 | 19=>cond (!d11) (.agg #[.int .i64 r.s.n,.slice h.ua r.s.u.length h.uc,.slice h.la h.es.length h.lc,.int .i64 r.cap,.int .i64 r.shift,.int .i64 r.edge,.int .u32 r.recent,.bool r.stamps,.bool r.sacks,.int .i64 r.fin,.bool r.dn,.slice h.fa r.first.length h.fc,.int .u32 r.irs,.int .u32 r.own,.bool r.stamp]) undef
 | 20=>cond (!d11) (.int .i64 r.limit) undef
 | 21=>cond (!d11) (.int .i64 (m:Int)) undef
 | 22=>cond (!d11) (.int .i64 (r.limit-(m:Int))) undef
 | 23=>cond (!d11) (.bool b23) undef
 | 24=>.bool d24
 | 25=>.bool d24
 | 26=>cond (!d24) (.pointer (some ⟨g,9,none⟩)) undef
 | 27=>cond (!d24) (.int .i64 r.fin) undef
 | 28=>cond (!d24) (.bool b28) undef
 | 29=>cond (!d24) (.bool b28) undef
 | 30=>cond (!d24&&b28) (.pointer (some ⟨g,2,none⟩)) undef
 | 31=>cond (!d24&&b28) (.slice (some ⟨pb,po,none⟩) h.es.length h.lc) undef
 | 32=>cond (!d24&&b28) (.int .i64 (i:Int)) undef
 | 33=>cond (!d24&&b28) (.pointer (some ⟨pb,po+i*2,none⟩)) undef
 | 34=>cond (!d24&&b28) (.pointer (some ⟨pb,po+i*2,none⟩)) undef
 | 35=>cond (!d24&&b28) (.int .i64 f) undef
 | 36=>cond (!d24&&b28) (.pointer (some ⟨g,9,none⟩)) undef
 | 37=>cond (!d24&&b28) (.int .i64 r.fin) undef
 | 38=>cond (!d24&&b28) (.int .i64 (m:Int)) undef
 | 39=>cond (!d24&&b28) (.int .i64 (r.fin-(m:Int))) undef
 | 40=>cond (!d24&&b28) (.bool b40) undef
 | 41=>cond (!d24) (.bool d41) undef
 | 42=>.bool d42
 | _=>undef
set_option maxRecDepth 100000 in
set_option maxHeartbeats 4000000 in
theorem chk10_reg {ps:String} {Q:Exit→Act→World→Prop} {a0:Act} {W0:World} (sz:a0.tmps.size=199) (r:Pl.Rv) (h:Hd) (g pb po i m:Nat) (f last:Int)
 (e1:a0.eval (.tmp 1)=.pointer (some ⟨g,0,none⟩)) (e3:a0.eval (.tmp 3)=.int .i64 last) (e4:a0.eval (.tmp 4)=.int .i64 (i:Int)) (e5:a0.eval (.tmp 5)=.int .i64 (m:Int))
 (hl:lowB r) (hb:Box W0 g 27 (rvL r h)) (hla:h.la=some ⟨pb,po,none⟩) (hi:(i:Int)<(h.es.length:Int)) (hc:W0.cell? ⟨pb,po+i*2,none⟩=some (.int .i64 f)) (hw1:IntKind.i64.wrap (r.limit-(m:Int))=r.limit-(m:Int)) (hw2:IntKind.i64.wrap (r.fin-(m:Int))=r.fin-(m:Int))
 {b1 b10 d11 b23 d24 b28 b40 d41 d42:Bool} (hb1:decide ((m:Int)<1)=b1)
 (hb10:decide (f≤last)=b10)
 (hd11:(b1 || b10)=d11)
 (hb23:decide ((r.limit-(m:Int))<f)=b23)
 (hd24:(d11 || b23)=d24)
 (hb28:decide (0≤r.fin)=b28)
 (hb40:decide ((r.fin-(m:Int))<f)=b40)
 (hd41:(b28&&b40)=d41)
 (hd42:(d24 || d41)=d42)
 (hfin:∀ (T:Nat→Value) w,T 42=.bool d42→(fun w=>Box w g 27 (rvL r h)∧Below W0.heap.size W0 w∧w.cell? ⟨pb,po+i*2,none⟩=some (.int .i64 f)) w→Q .normal (((((((((((((((((((((((((((((((((((((((((((a0.put (some 100) (T 0)).put (some 101) (T 1)).put (some 102) (T 2)).put (some 103) (T 3)).put (some 104) (T 4)).put (some 105) (T 5)).put (some 106) (T 6)).put (some 107) (T 7)).put (some 108) (T 8)).put (some 109) (T 9)).put (some 110) (T 10)).put (some 111) (T 11)).put (some 112) (T 12)).put (some 113) (T 13)).put (some 114) (T 14)).put (some 115) (T 15)).put (some 116) (T 16)).put (some 117) (T 17)).put (some 118) (T 18)).put (some 119) (T 19)).put (some 120) (T 20)).put (some 121) (T 21)).put (some 122) (T 22)).put (some 123) (T 23)).put (some 124) (T 24)).put (some 125) (T 25)).put (some 126) (T 26)).put (some 127) (T 27)).put (some 128) (T 28)).put (some 129) (T 29)).put (some 130) (T 30)).put (some 131) (T 31)).put (some 132) (T 32)).put (some 133) (T 33)).put (some 134) (T 34)).put (some 135) (T 35)).put (some 136) (T 36)).put (some 137) (T 37)).put (some 138) (T 38)).put (some 139) (T 39)).put (some 140) (T 40)).put (some 141) (T 41)).put (some 142) (T 42)) w) :
 (Code.region 10 (chk10 ps) true).wp Try.prog Q a0 W0:=by
 refine zby (by kernel_rfl) 43 rfl chk10D ?_ (by decide) (za7 r h g pb po i m f last b1 b10 d11 b23 d24 b28 b40 d41 d42) (fun w=>Box w g 27 (rvL r h)∧Below W0.heap.size W0 w∧w.cell? ⟨pb,po+i*2,none⟩=some (.int .i64 f)) ⟨hb.of_heap rfl,Below.drew (Below.refl _ _),hc⟩ ?_ (by rfl) (fun w hSw=>hfin (za7 r h g pb po i m f last b1 b10 d11 b23 d24 b28 b40 d41 d42) w rfl hSw)
 · intro jq t hj ht
   have:∀ j,j<43→(chk10D j).all (· < 199)=true:=by decide
   have:=this jq hj
   rw [ht] at this
   rw [sz]
   simpa using this
 · intro iq o ho a w hSw hs hel K hK
   have hin:iq<43:=(Array.getElem?_eq_some_iff.1 ho).1
   have u1:a.eval (.tmp 1)=.pointer (some ⟨g,0,none⟩):=(hel 1 (by decide)).trans e1
   have u3:a.eval (.tmp 3)=.int .i64 last:=(hel 3 (by decide)).trans e3
   have u4:a.eval (.tmp 4)=.int .i64 (i:Int):=(hel 4 (by decide)).trans e4
   have u5:a.eval (.tmp 5)=.int .i64 (m:Int):=(hel 5 (by decide)).trans e5
   have q0:=(hSw.1.cell 2 rfl).trans (by rw [hla])
   have q1:=hSw.2.2
   have q2:=Box.c15 hSw.1
   have q3:=hw1
   have q4:=hSw.1.cell 9 rfl
   obtain rfl:=Option.some.inj (ho.symm.trans (zay ps iq hin))
   match iq,hin,ho with
   | 0,_,ho|1,_,ho|2,_,ho|12,_,ho|25,_,ho =>
    have hz:=zcx hs
    simp only [zao,AllA,chk10D,za7,Region.binds] at hz
    exact zal ho rfl (by unfold zao execOp;simp only [hz,u1,u3,u4,u5,za7];first|(go_simp;done)|(go_simp;with_reducible rfl)) (hK w hSw)
   | 3,_,ho|4,_,ho|5,_,ho|6,_,ho|7,_,ho|8,_,ho|9,_,ho|10,_,ho|13,_,ho|14,_,ho|15,_,ho|16,_,ho|17,_,ho|18,_,ho|19,_,ho|21,_,ho|22,_,ho|23,_,ho|26,_,ho|27,_,ho|28,_,ho|29,_,ho =>
    have hz:=zcx hs
    simp only [zao,AllA,chk10D,za7,Region.binds] at hz
    exact op_gn ho rfl (zay ps _ (by decide)) rfl (by simp only [hz]) (fun hc=>by subst hc;unfold zao execOp;simp only [hz,u1,u3,u4,u5,Bool.not_false,cond_true];first|(go_simp;done)|(go_simp;with_reducible rfl)) (hK w hSw)
   | 11,_,ho =>
   have s2:=hs 2 102 (by rfl) rfl
   have s10:=hs 10 110 (by rfl) rfl
   cases b1
   all_goals ((try simp only [za7,cond_true,cond_false,Bool.not_true,Bool.not_false,Bool.and_true,Bool.true_and,Bool.and_false,Bool.false_and] at s2 s10);(try (simp only [Bool.true_or,Bool.false_or,Bool.true_and,Bool.false_and] at hd11;subst hd11));exact zal ho rfl (by unfold zao execOp;simp only [s2,s10,za7,cond_true,cond_false,Bool.not_true,Bool.not_false,Bool.and_true,Bool.true_and,Bool.and_false,Bool.false_and];first|(go_simp;done)|(go_simp;with_reducible rfl)) (hK w hSw))
   | 20,_,ho =>
   have s19:=hs 19 119 (by rfl) rfl
   have s12:=hs 12 112 (by rfl) rfl
   cases d11
   all_goals ((try simp only [za7,cond_true,cond_false,Bool.not_true,Bool.not_false,Bool.and_true,Bool.true_and,Bool.and_false,Bool.false_and] at s19 s12);first|(exact zat ho (by rw [zae rfl (zay ps 12 (by decide)) rfl s12];rfl) (hK w hSw))|(exact zbr ho (by rw [zae rfl (zay ps 12 (by decide)) rfl s12];rfl) (f:=41) (args:=#[.agg #[.int .i64 r.s.n,.slice h.ua r.s.u.length h.uc,.slice h.la h.es.length h.lc,.int .i64 r.cap,.int .i64 r.shift,.int .i64 r.edge,.int .u32 r.recent,.bool r.stamps,.bool r.sacks,.int .i64 r.fin,.bool r.dn,.slice h.fa r.first.length h.fc,.int .u32 r.irs,.int .u32 r.own,.bool r.stamp]]) (by rw [zbz rfl enter_limit];simp only [List.map_toArray,List.map_cons,List.map_nil,s19];try rfl) ((zcs r h w hl).mono (fun e w' hh=>⟨_,hh.1,hK w' ⟨hSw.1.later hh.2,Below.on hSw.2.1 hh.2,(hh.2.cell (p:=⟨pb,po+i*2,none⟩) (zac hSw.2.2)).trans hSw.2.2⟩⟩))))
   | 24,_,ho =>
   have s12:=hs 12 112 (by rfl) rfl
   have s23:=hs 23 123 (by rfl) rfl
   cases d11
   all_goals ((try simp only [za7,cond_true,cond_false,Bool.not_true,Bool.not_false,Bool.and_true,Bool.true_and,Bool.and_false,Bool.false_and] at s12 s23);(try (simp only [Bool.true_or,Bool.false_or,Bool.true_and,Bool.false_and] at hd24;subst hd24));exact zal ho rfl (by unfold zao execOp;simp only [s12,s23,za7,cond_true,cond_false,Bool.not_true,Bool.not_false,Bool.and_true,Bool.true_and,Bool.and_false,Bool.false_and];first|(go_simp;done)|(go_simp;with_reducible rfl)) (hK w hSw))
   | 30,_,ho =>
   have s29:=hs 29 129 (by rfl) rfl
   cases d24<;>cases b28
   all_goals ((try simp only [za7,cond_true,cond_false,Bool.not_true,Bool.not_false,Bool.and_true,Bool.true_and,Bool.and_false,Bool.false_and] at s29);first|(exact zat ho (by rw [zae rfl (zay ps 29 (by decide)) rfl s29];rfl) (hK w hSw))|(exact zal ho (by rw [zae rfl (zay ps 29 (by decide)) rfl s29];rfl) (by unfold zao execOp;simp only [u1,za7,cond_true,cond_false,Bool.not_true,Bool.not_false,Bool.and_true,Bool.true_and,Bool.and_false,Bool.false_and];first|(go_simp;done)|(go_simp;with_reducible rfl)) (hK w hSw)))
   | 31,_,ho =>
   have s30:=hs 30 130 (by rfl) rfl
   have s29:=hs 29 129 (by rfl) rfl
   have hcl:=(hSw.1.cell 2 rfl).trans (by rw [hla])
   cases d24<;>cases b28
   all_goals ((try simp only [za7,cond_true,cond_false,Bool.not_true,Bool.not_false,Bool.and_true,Bool.true_and,Bool.and_false,Bool.false_and] at s30 s29);first|(exact zat ho (by rw [zae rfl (zay ps 29 (by decide)) rfl s29];rfl) (hK w hSw))|(exact zal ho (by rw [zae rfl (zay ps 29 (by decide)) rfl s29];rfl) (by unfold zao execOp;simp only [s30,za7,cond_true,cond_false,Bool.not_true,Bool.not_false,Bool.and_true,Bool.true_and,Bool.and_false,Bool.false_and];first|(go_simp;done)|(go_simp;with_reducible rfl)) (hK w hSw)))
   | 32,_,ho =>
   have s29:=hs 29 129 (by rfl) rfl
   cases d24<;>cases b28
   all_goals ((try simp only [za7,cond_true,cond_false,Bool.not_true,Bool.not_false,Bool.and_true,Bool.true_and,Bool.and_false,Bool.false_and] at s29);first|(exact zat ho (by rw [zae rfl (zay ps 29 (by decide)) rfl s29];rfl) (hK w hSw))|(exact zal ho (by rw [zae rfl (zay ps 29 (by decide)) rfl s29];rfl) (by unfold zao execOp;simp only [u4,za7,cond_true,cond_false,Bool.not_true,Bool.not_false,Bool.and_true,Bool.true_and,Bool.and_false,Bool.false_and];first|(go_simp;done)|(go_simp;with_reducible rfl)) (hK w hSw)))
   | 33,_,ho =>
   have s31:=hs 31 131 (by rfl) rfl
   have s32:=hs 32 132 (by rfl) rfl
   have s29:=hs 29 129 (by rfl) rfl
   cases d24<;>cases b28
   all_goals ((try simp only [za7,cond_true,cond_false,Bool.not_true,Bool.not_false,Bool.and_true,Bool.true_and,Bool.and_false,Bool.false_and] at s31 s32 s29);first|(exact zat ho (by rw [zae rfl (zay ps 29 (by decide)) rfl s29];rfl) (hK w hSw))|(exact zal ho (by rw [zae rfl (zay ps 29 (by decide)) rfl s29];rfl) (by unfold zao execOp;simp only [s31,s32,za7,cond_true,cond_false,Bool.not_true,Bool.not_false,Bool.and_true,Bool.true_and,Bool.and_false,Bool.false_and];first|(go_simp;done)|(go_simp;with_reducible rfl)) (hK w hSw)))
   | 34,_,ho =>
   have s33:=hs 33 133 (by rfl) rfl
   have s29:=hs 29 129 (by rfl) rfl
   cases d24<;>cases b28
   all_goals ((try simp only [za7,cond_true,cond_false,Bool.not_true,Bool.not_false,Bool.and_true,Bool.true_and,Bool.and_false,Bool.false_and] at s33 s29);first|(exact zat ho (by rw [zae rfl (zay ps 29 (by decide)) rfl s29];rfl) (hK w hSw))|(exact zal ho (by rw [zae rfl (zay ps 29 (by decide)) rfl s29];rfl) (by unfold zao execOp;simp only [s33,za7,cond_true,cond_false,Bool.not_true,Bool.not_false,Bool.and_true,Bool.true_and,Bool.and_false,Bool.false_and];first|(go_simp;done)|(go_simp;with_reducible rfl)) (hK w hSw)))
   | 35,_,ho =>
   have s34:=hs 34 134 (by rfl) rfl
   have s29:=hs 29 129 (by rfl) rfl
   have hcl:=hSw.2.2
   cases d24<;>cases b28
   all_goals ((try simp only [za7,cond_true,cond_false,Bool.not_true,Bool.not_false,Bool.and_true,Bool.true_and,Bool.and_false,Bool.false_and] at s34 s29);first|(exact zat ho (by rw [zae rfl (zay ps 29 (by decide)) rfl s29];rfl) (hK w hSw))|(exact zal ho (by rw [zae rfl (zay ps 29 (by decide)) rfl s29];rfl) (by unfold zao execOp;simp only [s34,za7,cond_true,cond_false,Bool.not_true,Bool.not_false,Bool.and_true,Bool.true_and,Bool.and_false,Bool.false_and];first|(go_simp;done)|(go_simp;with_reducible rfl)) (hK w hSw)))
   | 36,_,ho =>
   have s29:=hs 29 129 (by rfl) rfl
   cases d24<;>cases b28
   all_goals ((try simp only [za7,cond_true,cond_false,Bool.not_true,Bool.not_false,Bool.and_true,Bool.true_and,Bool.and_false,Bool.false_and] at s29);first|(exact zat ho (by rw [zae rfl (zay ps 29 (by decide)) rfl s29];rfl) (hK w hSw))|(exact zal ho (by rw [zae rfl (zay ps 29 (by decide)) rfl s29];rfl) (by unfold zao execOp;simp only [u1,za7,cond_true,cond_false,Bool.not_true,Bool.not_false,Bool.and_true,Bool.true_and,Bool.and_false,Bool.false_and];first|(go_simp;done)|(go_simp;with_reducible rfl)) (hK w hSw)))
   | 37,_,ho =>
   have s36:=hs 36 136 (by rfl) rfl
   have s29:=hs 29 129 (by rfl) rfl
   have hcl:=hSw.1.cell 9 rfl
   cases d24<;>cases b28
   all_goals ((try simp only [za7,cond_true,cond_false,Bool.not_true,Bool.not_false,Bool.and_true,Bool.true_and,Bool.and_false,Bool.false_and] at s36 s29);first|(exact zat ho (by rw [zae rfl (zay ps 29 (by decide)) rfl s29];rfl) (hK w hSw))|(exact zal ho (by rw [zae rfl (zay ps 29 (by decide)) rfl s29];rfl) (by unfold zao execOp;simp only [s36,za7,cond_true,cond_false,Bool.not_true,Bool.not_false,Bool.and_true,Bool.true_and,Bool.and_false,Bool.false_and];first|(go_simp;done)|(go_simp;with_reducible rfl)) (hK w hSw)))
   | 38,_,ho =>
   have s29:=hs 29 129 (by rfl) rfl
   cases d24<;>cases b28
   all_goals ((try simp only [za7,cond_true,cond_false,Bool.not_true,Bool.not_false,Bool.and_true,Bool.true_and,Bool.and_false,Bool.false_and] at s29);first|(exact zat ho (by rw [zae rfl (zay ps 29 (by decide)) rfl s29];rfl) (hK w hSw))|(exact zal ho (by rw [zae rfl (zay ps 29 (by decide)) rfl s29];rfl) (by unfold zao execOp;simp only [u5,za7,cond_true,cond_false,Bool.not_true,Bool.not_false,Bool.and_true,Bool.true_and,Bool.and_false,Bool.false_and];first|(go_simp;done)|(go_simp;with_reducible rfl)) (hK w hSw)))
   | 39,_,ho =>
   have s37:=hs 37 137 (by rfl) rfl
   have s38:=hs 38 138 (by rfl) rfl
   have s29:=hs 29 129 (by rfl) rfl
   have hcl:=hw2
   cases d24<;>cases b28
   all_goals ((try simp only [za7,cond_true,cond_false,Bool.not_true,Bool.not_false,Bool.and_true,Bool.true_and,Bool.and_false,Bool.false_and] at s37 s38 s29);first|(exact zat ho (by rw [zae rfl (zay ps 29 (by decide)) rfl s29];rfl) (hK w hSw))|(exact zal ho (by rw [zae rfl (zay ps 29 (by decide)) rfl s29];rfl) (by unfold zao execOp;simp only [s37,s38,za7,cond_true,cond_false,Bool.not_true,Bool.not_false,Bool.and_true,Bool.true_and,Bool.and_false,Bool.false_and];first|(go_simp;done)|(go_simp;with_reducible rfl)) (hK w hSw)))
   | 40,_,ho =>
   have s35:=hs 35 135 (by rfl) rfl
   have s39:=hs 39 139 (by rfl) rfl
   have s29:=hs 29 129 (by rfl) rfl
   cases d24<;>cases b28
   all_goals ((try simp only [za7,cond_true,cond_false,Bool.not_true,Bool.not_false,Bool.and_true,Bool.true_and,Bool.and_false,Bool.false_and] at s35 s39 s29);first|(exact zat ho (by rw [zae rfl (zay ps 29 (by decide)) rfl s29];rfl) (hK w hSw))|(exact zal ho (by rw [zae rfl (zay ps 29 (by decide)) rfl s29];rfl) (by unfold zao execOp;simp only [s35,s39,za7,cond_true,cond_false,Bool.not_true,Bool.not_false,Bool.and_true,Bool.true_and,Bool.and_false,Bool.false_and];first|(go_simp;done)|(go_simp;with_reducible rfl)) (hK w hSw)))
   | 41,_,ho =>
   have s29:=hs 29 129 (by rfl) rfl
   have s40:=hs 40 140 (by rfl) rfl
   have s25:=hs 25 125 (by rfl) rfl
   cases d24<;>cases b28
   all_goals ((try simp only [za7,cond_true,cond_false,Bool.not_true,Bool.not_false,Bool.and_true,Bool.true_and,Bool.and_false,Bool.false_and] at s29 s40 s25);(try (simp only [Bool.true_or,Bool.false_or,Bool.true_and,Bool.false_and] at hd41;subst hd41));first|(exact zat ho (by rw [zae rfl (zay ps 25 (by decide)) rfl s25];rfl) (hK w hSw))|(exact zal ho (by rw [zae rfl (zay ps 25 (by decide)) rfl s25];rfl) (by unfold zao execOp;simp only [s29,s40,za7,cond_true,cond_false,Bool.not_true,Bool.not_false,Bool.and_true,Bool.true_and,Bool.and_false,Bool.false_and];first|(go_simp;done)|(go_simp;with_reducible rfl)) (hK w hSw)))
   | 42,_,ho =>
   have s25:=hs 25 125 (by rfl) rfl
   have s41:=hs 41 141 (by rfl) rfl
   cases d24
   all_goals ((try simp only [za7,cond_true,cond_false,Bool.not_true,Bool.not_false,Bool.and_true,Bool.true_and,Bool.and_false,Bool.false_and] at s25 s41);(try (simp only [Bool.true_or,Bool.false_or,Bool.true_and,Bool.false_and] at hd42;subst hd42));exact zal ho rfl (by unfold zao execOp;simp only [s25,s41,za7,cond_true,cond_false,Bool.not_true,Bool.not_false,Bool.and_true,Bool.true_and,Bool.and_false,Bool.false_and];first|(go_simp;done)|(go_simp;with_reducible rfl)) (hK w hSw))
   | iq+43,hin,_=>exact absurd hin (by omega)
end Go.Proofs.Ytkigcdmlkmcdcaa
