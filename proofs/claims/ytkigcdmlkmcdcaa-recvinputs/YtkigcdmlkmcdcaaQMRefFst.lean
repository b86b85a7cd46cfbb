/- The document's firsts: its drawn region. -/
import Derived.Test.YtkigcdmlkmcdcaaQZ
import Derived.Test.YtkigcdmlkmcdcaaQMDetU
import Derived.Test.YtkigcdmlkmcdcaaQMSpansW
import Derived.Test.YtkigcdmlkmcdcaaQGO
import Derived.Test.YtkigcdmlkmcdcaaQMRefTkP
namespace Go.Proofs.Ytkigcdmlkmcdcaa
open Go.ChangeShapes Go.WideShapes Go.ChangeAt Go.RowKit
set_option linter.unusedVariables false
set_option linter.unusedSimpArgs false
theorem enter_inT (args:Array Value) (w:World):(callFunc 47 args).run Try.prog w=.ok (.enter 47 args) w:=by kernel_rfl
def zau (ps:String):Nat→Oper
 | 0=>⟨some 30,.move (.tmp 9),25,ps,#[],none⟩
 | 1=>⟨some 31,.move (.tmp 10),3,ps,#[],none⟩
 | 2=>⟨some 32,.indexAddr 25 (.tmp 30) (.tmp 31),0,ps,#[⟨0,.data⟩,⟨1,.data⟩],none⟩
 | 3=>⟨some 33,.fieldAddr 78 (.tmp 32) 0,0,ps,#[⟨2,.data⟩],none⟩
 | 4=>⟨some 34,.load 3 (.tmp 33),3,ps,#[⟨3,.data⟩],none⟩
 | 5=>⟨some 35,.move (.tmp 8),25,ps,#[],none⟩
 | 6=>⟨some 36,.move (.tmp 11),3,ps,#[],none⟩
 | 7=>⟨some 37,.indexAddr 25 (.tmp 35) (.tmp 36),0,ps,#[⟨5,.data⟩,⟨6,.data⟩],none⟩
 | 8=>⟨some 38,.fieldAddr 78 (.tmp 37) 0,0,ps,#[⟨7,.data⟩],none⟩
 | 9=>⟨some 39,.load 3 (.tmp 38),3,ps,#[⟨8,.data⟩],none⟩
 | 10=>⟨some 40,.binOp .geq 3 (.tmp 34) (.tmp 39) 3,4,ps,#[⟨4,.data⟩,⟨9,.data⟩],none⟩
 | 11=>⟨some 41,.move (.tmp 40),4,ps,#[⟨10,.data⟩],none⟩
 | 12=>⟨some 42,.move (.tmp 9),25,ps,#[⟨11,.guard⟩],some (11,true)⟩
 | 13=>⟨some 43,.move (.tmp 10),3,ps,#[⟨11,.guard⟩],some (11,true)⟩
 | 14=>⟨some 44,.indexAddr 25 (.tmp 42) (.tmp 43),0,ps,#[⟨12,.data⟩,⟨13,.data⟩,⟨11,.guard⟩],some (11,true)⟩
 | 15=>⟨some 45,.fieldAddr 78 (.tmp 44) 1,0,ps,#[⟨14,.data⟩,⟨11,.guard⟩],some (11,true)⟩
 | 16=>⟨some 46,.load 3 (.tmp 45),3,ps,#[⟨15,.data⟩,⟨11,.guard⟩],some (11,true)⟩
 | 17=>⟨some 47,.move (.tmp 8),25,ps,#[⟨11,.guard⟩],some (11,true)⟩
 | 18=>⟨some 48,.move (.tmp 11),3,ps,#[⟨11,.guard⟩],some (11,true)⟩
 | 19=>⟨some 49,.indexAddr 25 (.tmp 47) (.tmp 48),0,ps,#[⟨17,.data⟩,⟨18,.data⟩,⟨11,.guard⟩],some (11,true)⟩
 | 20=>⟨some 50,.fieldAddr 78 (.tmp 49) 1,0,ps,#[⟨19,.data⟩,⟨11,.guard⟩],some (11,true)⟩
 | 21=>⟨some 51,.load 3 (.tmp 50),3,ps,#[⟨20,.data⟩,⟨11,.guard⟩],some (11,true)⟩
 | 22=>⟨some 52,.binOp .leq 3 (.tmp 46) (.tmp 51) 3,4,ps,#[⟨16,.data⟩,⟨21,.data⟩,⟨11,.guard⟩],some (11,true)⟩
 | 23=>⟨some 53,.pick (.tmp 41) (.tmp 52) (.const (.bool false)),4,ps,#[⟨11,.data⟩,⟨22,.data⟩],none⟩
 | 24=>⟨some 54,.move (.tmp 53),4,ps,#[⟨23,.data⟩,⟨11,.chain⟩],none⟩
 | 25=>⟨some 55,.move (.tmp 9),25,ps,#[⟨24,.guard⟩],some (24,true)⟩
 | 26=>⟨some 56,.move (.tmp 10),3,ps,#[⟨24,.guard⟩],some (24,true)⟩
 | 27=>⟨some 57,.indexAddr 25 (.tmp 55) (.tmp 56),0,ps,#[⟨25,.data⟩,⟨26,.data⟩,⟨24,.guard⟩],some (24,true)⟩
 | 28=>⟨some 58,.fieldAddr 78 (.tmp 57) 0,0,ps,#[⟨27,.data⟩,⟨24,.guard⟩],some (24,true)⟩
 | 29=>⟨some 59,.load 3 (.tmp 58),3,ps,#[⟨28,.data⟩,⟨24,.guard⟩],some (24,true)⟩
 | 30=>⟨some 60,.move (.tmp 9),25,ps,#[⟨24,.guard⟩],some (24,true)⟩
 | 31=>⟨some 61,.move (.tmp 10),3,ps,#[⟨24,.guard⟩],some (24,true)⟩
 | 32=>⟨some 62,.indexAddr 25 (.tmp 60) (.tmp 61),0,ps,#[⟨30,.data⟩,⟨31,.data⟩,⟨24,.guard⟩],some (24,true)⟩
 | 33=>⟨some 63,.fieldAddr 78 (.tmp 62) 1,0,ps,#[⟨32,.data⟩,⟨24,.guard⟩],some (24,true)⟩
 | 34=>⟨some 64,.load 3 (.tmp 63),3,ps,#[⟨33,.data⟩,⟨24,.guard⟩],some (24,true)⟩
 | 35=>⟨some 65,.binOp .lss 3 (.tmp 59) (.tmp 64) 3,4,ps,#[⟨29,.data⟩,⟨34,.data⟩,⟨24,.guard⟩],some (24,true)⟩
 | 36=>⟨some 66,.pick (.tmp 54) (.tmp 65) (.const (.bool false)),4,ps,#[⟨24,.data⟩,⟨35,.data⟩],none⟩
 | 37=>⟨some 67,.move (.tmp 66),4,ps,#[⟨36,.data⟩,⟨24,.chain⟩],none⟩
 | 38=>⟨some 68,.move (.tmp 8),25,ps,#[⟨37,.guard⟩],some (37,true)⟩
 | 39=>⟨some 69,.move (.tmp 11),3,ps,#[⟨37,.guard⟩],some (37,true)⟩
 | 40=>⟨some 70,.indexAddr 25 (.tmp 68) (.tmp 69),0,ps,#[⟨38,.data⟩,⟨39,.data⟩,⟨37,.guard⟩],some (37,true)⟩
 | 41=>⟨some 71,.load 78 (.tmp 70),78,ps,#[⟨40,.data⟩,⟨37,.guard⟩],some (37,true)⟩
 | 42=>⟨some 72,.move (.tmp 7),25,ps,#[⟨37,.guard⟩],some (37,true)⟩
 | 43=>⟨some 73,.call { callee:=.value (.func 47),args:=#[.tmp 71,.tmp 72],argTypes:=#[78,25]},4,ps,#[⟨41,.data⟩,⟨42,.data⟩,⟨37,.chain⟩,⟨37,.guard⟩],some (37,true)⟩
 | 44=>⟨some 74,.unOp .not 4 (.tmp 73),4,ps,#[⟨43,.data⟩,⟨37,.guard⟩],some (37,true)⟩
 | _=>⟨some 75,.pick (.tmp 67) (.tmp 74) (.const (.bool false)),4,ps,#[⟨37,.data⟩,⟨44,.data⟩],none⟩
def fst10 (ps:String):Array Oper:=#[zau ps 0,zau ps 1,zau ps 2,zau ps 3,zau ps 4,zau ps 5,zau ps 6,zau ps 7,zau ps 8,zau ps 9,zau ps 10,zau ps 11,zau ps 12,zau ps 13,zau ps 14,zau ps 15,zau ps 16,zau ps 17,zau ps 18,zau ps 19,zau ps 20,zau ps 21,zau ps 22,zau ps 23,zau ps 24,zau ps 25,zau ps 26,zau ps 27,zau ps 28,zau ps 29,zau ps 30,zau ps 31,zau ps 32,zau ps 33,zau ps 34,zau ps 35,zau ps 36,zau ps 37,zau ps 38,zau ps 39,zau ps 40,zau ps 41,zau ps 42,zau ps 43,zau ps 44,zau ps 45]
theorem zdm (ps:String):∀ i,i<46→(fst10 ps)[i]? = some (zau ps i)
 | 0,_|1,_|2,_|3,_|4,_|5,_|6,_|7,_|8,_|9,_|10,_|11,_|12,_|13,_|14,_|15,_|16,_|17,_|18,_|19,_|20,_|21,_|22,_|23,_|24,_|25,_|26,_|27,_|28,_|29,_|30,_|31,_|32,_|33,_|34,_|35,_|36,_|37,_|38,_|39,_|40,_|41,_|42,_|43,_|44,_|45,_=>rfl
 | i+46,h=>absurd h (by omega)
def fst10D:Nat→Option Tmp
 | 0=>some 30
 | 1=>some 31
 | 2=>some 32
 | 3=>some 33
 | 4=>some 34
 | 5=>some 35
 | 6=>some 36
 | 7=>some 37
 | 8=>some 38
 | 9=>some 39
 | 10=>some 40
 | 11=>some 41
 | 12=>some 42
 | 13=>some 43
 | 14=>some 44
 | 15=>some 45
 | 16=>some 46
 | 17=>some 47
 | 18=>some 48
 | 19=>some 49
 | 20=>some 50
 | 21=>some 51
 | 22=>some 52
 | 23=>some 53
 | 24=>some 54
 | 25=>some 55
 | 26=>some 56
 | 27=>some 57
 | 28=>some 58
 | 29=>some 59
 | 30=>some 60
 | 31=>some 61
 | 32=>some 62
 | 33=>some 63
 | 34=>some 64
 | 35=>some 65
 | 36=>some 66
 | 37=>some 67
 | 38=>some 68
 | 39=>some 69
 | 40=>some 70
 | 41=>some 71
 | 42=>some 72
 | 43=>some 73
 | 44=>some 74
 | 45=>some 75
 | _=>none
def zck (va:Option Addr) (m vc ab ao n ac ob oo N oc i j:Nat) (a s:Tm) (b101 b10 b22 d23 b35 d36 d44 d45:Bool):Nat→Value
 | 0=>.slice (some ⟨ob,oo,none⟩) N oc
 | 1=>.int .i64 (i:Int)
 | 2=>.pointer (some ⟨ob,oo+i*2,none⟩)
 | 3=>.pointer (some ⟨ob,oo+i*2,none⟩)
 | 4=>.int .i64 a.1
 | 5=>.slice (some ⟨ab,ao,none⟩) n ac
 | 6=>.int .i64 (j:Int)
 | 7=>.pointer (some ⟨ab,ao+j*2,none⟩)
 | 8=>.pointer (some ⟨ab,ao+j*2,none⟩)
 | 9=>.int .i64 s.1
 | 10=>.bool b10
 | 11=>.bool b10
 | 12=>cond (b10) (.slice (some ⟨ob,oo,none⟩) N oc) undef
 | 13=>cond (b10) (.int .i64 (i:Int)) undef
 | 14=>cond (b10) (.pointer (some ⟨ob,oo+i*2,none⟩)) undef
 | 15=>cond (b10) (.pointer (some ⟨ob,oo+i*2+1,none⟩)) undef
 | 16=>cond (b10) (.int .i64 a.2) undef
 | 17=>cond (b10) (.slice (some ⟨ab,ao,none⟩) n ac) undef
 | 18=>cond (b10) (.int .i64 (j:Int)) undef
 | 19=>cond (b10) (.pointer (some ⟨ab,ao+j*2,none⟩)) undef
 | 20=>cond (b10) (.pointer (some ⟨ab,ao+j*2+1,none⟩)) undef
 | 21=>cond (b10) (.int .i64 s.2) undef
 | 22=>cond (b10) (.bool b22) undef
 | 23=>.bool d23
 | 24=>.bool d23
 | 25=>cond (d23) (.slice (some ⟨ob,oo,none⟩) N oc) undef
 | 26=>cond (d23) (.int .i64 (i:Int)) undef
 | 27=>cond (d23) (.pointer (some ⟨ob,oo+i*2,none⟩)) undef
 | 28=>cond (d23) (.pointer (some ⟨ob,oo+i*2,none⟩)) undef
 | 29=>cond (d23) (.int .i64 a.1) undef
 | 30=>cond (d23) (.slice (some ⟨ob,oo,none⟩) N oc) undef
 | 31=>cond (d23) (.int .i64 (i:Int)) undef
 | 32=>cond (d23) (.pointer (some ⟨ob,oo+i*2,none⟩)) undef
 | 33=>cond (d23) (.pointer (some ⟨ob,oo+i*2+1,none⟩)) undef
 | 34=>cond (d23) (.int .i64 a.2) undef
 | 35=>cond (d23) (.bool b35) undef
 | 36=>.bool d36
 | 37=>.bool d36
 | 38=>cond (d36) (.slice (some ⟨ab,ao,none⟩) n ac) undef
 | 39=>cond (d36) (.int .i64 (j:Int)) undef
 | 40=>cond (d36) (.pointer (some ⟨ab,ao+j*2,none⟩)) undef
 | 41=>cond (d36) (.agg #[.int .i64 s.1,.int .i64 s.2]) undef
 | 42=>cond (d36) (.slice va m vc) undef
 | 43=>cond (d36) (.bool b101) undef
 | 44=>cond (d36) (.bool d44) undef
 | 45=>.bool d45
 | _=>undef
set_option maxRecDepth 100000 in
set_option maxHeartbeats 4000000 in
theorem fst10_reg {ps:String} {Q:Exit→Act→World→Prop} {a0:Act} {W0:World} (sz:a0.tmps.size=84) (va:Option Addr) (m vc ab ao n ac ob oo N oc i j:Nat) (a s:Tm)
 (e7:a0.eval (.tmp 7)=.slice va m vc) (e8:a0.eval (.tmp 8)=.slice (some ⟨ab,ao,none⟩) n ac) (e9:a0.eval (.tmp 9)=.slice (some ⟨ob,oo,none⟩) N oc) (e10:a0.eval (.tmp 10)=.int .i64 (i:Int)) (e11:a0.eval (.tmp 11)=.int .i64 (j:Int))
 (ol:List Tm) {b101:Bool} (hi:(i:Int)<(N:Int)) (hj:(j:Int)<(n:Int)) (hc1:W0.cell? ⟨ob,oo+i*2,none⟩=some (.int .i64 a.1)) (hc2:W0.cell? ⟨ob,oo+i*2+1,none⟩=some (.int .i64 a.2)) (hc3:W0.cell? ⟨ab,ao+j*2,none⟩=some (.int .i64 s.1)) (hc4:W0.cell? ⟨ab,ao+j*2+1,none⟩=some (.int .i64 s.2)) (hts:za0 W0 va ol) (hm:ol.length=m)
 (hb101:decide (s∈ol)=b101) {b10 b22 d23 b35 d36 d44 d45:Bool} (hb10:decide (s.1≤a.1)=b10)
 (hb22:decide (a.2≤s.2)=b22)
 (hd23:(b10&&b22)=d23)
 (hb35:decide (a.1<a.2)=b35)
 (hd36:(d23&&b35)=d36)
 (hd44:(!b101)=d44)
 (hd45:(d36&&d44)=d45)
 (hfin:∀ (T:Nat→Value) w,T 45=.bool d45→(fun w=>Below W0.heap.size W0 w∧w.cell? ⟨ob,oo+i*2,none⟩=some (.int .i64 a.1)∧w.cell? ⟨ob,oo+i*2+1,none⟩=some (.int .i64 a.2)∧w.cell? ⟨ab,ao+j*2,none⟩=some (.int .i64 s.1)∧w.cell? ⟨ab,ao+j*2+1,none⟩=some (.int .i64 s.2)∧za0 w va ol) w→Q .normal ((((((((((((((((((((((((((((((((((((((((((((((a0.put (some 30) (T 0)).put (some 31) (T 1)).put (some 32) (T 2)).put (some 33) (T 3)).put (some 34) (T 4)).put (some 35) (T 5)).put (some 36) (T 6)).put (some 37) (T 7)).put (some 38) (T 8)).put (some 39) (T 9)).put (some 40) (T 10)).put (some 41) (T 11)).put (some 42) (T 12)).put (some 43) (T 13)).put (some 44) (T 14)).put (some 45) (T 15)).put (some 46) (T 16)).put (some 47) (T 17)).put (some 48) (T 18)).put (some 49) (T 19)).put (some 50) (T 20)).put (some 51) (T 21)).put (some 52) (T 22)).put (some 53) (T 23)).put (some 54) (T 24)).put (some 55) (T 25)).put (some 56) (T 26)).put (some 57) (T 27)).put (some 58) (T 28)).put (some 59) (T 29)).put (some 60) (T 30)).put (some 61) (T 31)).put (some 62) (T 32)).put (some 63) (T 33)).put (some 64) (T 34)).put (some 65) (T 35)).put (some 66) (T 36)).put (some 67) (T 37)).put (some 68) (T 38)).put (some 69) (T 39)).put (some 70) (T 40)).put (some 71) (T 41)).put (some 72) (T 42)).put (some 73) (T 43)).put (some 74) (T 44)).put (some 75) (T 45)) w) :
 (Code.region 10 (fst10 ps) true).wp Try.prog Q a0 W0:=by
 refine zby (by kernel_rfl) 46 rfl fst10D ?_ (by decide) (zck va m vc ab ao n ac ob oo N oc i j a s b101 b10 b22 d23 b35 d36 d44 d45) (fun w=>Below W0.heap.size W0 w∧w.cell? ⟨ob,oo+i*2,none⟩=some (.int .i64 a.1)∧w.cell? ⟨ob,oo+i*2+1,none⟩=some (.int .i64 a.2)∧w.cell? ⟨ab,ao+j*2,none⟩=some (.int .i64 s.1)∧w.cell? ⟨ab,ao+j*2+1,none⟩=some (.int .i64 s.2)∧za0 w va ol) ⟨Below.drew (Below.refl _ _),hc1,hc2,hc3,hc4,hts.later (Below.drew (Below.refl _ _))⟩ ?_ (by rfl) (fun w hSw=>hfin (zck va m vc ab ao n ac ob oo N oc i j a s b101 b10 b22 d23 b35 d36 d44 d45) w rfl hSw)
 · intro jq t hj ht
   have:∀ j,j<46→(fst10D j).all (· < 84)=true:=by decide
   have:=this jq hj
   rw [ht] at this
   rw [sz]
   simpa using this
 · intro iq o ho a w hSw hs hel K hK
   have hin:iq<46:=(Array.getElem?_eq_some_iff.1 ho).1
   have u10:a.eval (.tmp 10)=.int .i64 (i:Int):=(hel 10 (by decide)).trans e10
   have u11:a.eval (.tmp 11)=.int .i64 (j:Int):=(hel 11 (by decide)).trans e11
   have u7:a.eval (.tmp 7)=.slice va m vc:=(hel 7 (by decide)).trans e7
   have u8:a.eval (.tmp 8)=.slice (some ⟨ab,ao,none⟩) n ac:=(hel 8 (by decide)).trans e8
   have u9:a.eval (.tmp 9)=.slice (some ⟨ob,oo,none⟩) N oc:=(hel 9 (by decide)).trans e9
   have q0:=hSw.2.1
   have q1:=hSw.2.2.2.1
   have q2:=hSw.2.2.1
   have q3:=hSw.2.2.2.2.1
   have q4:=And.intro hSw.2.2.2.1 hSw.2.2.2.2.1
   obtain rfl:=Option.some.inj (ho.symm.trans (zdm ps iq hin))
   match iq,hin,ho with
   | 0,_,ho|1,_,ho|2,_,ho|3,_,ho|4,_,ho|5,_,ho|6,_,ho|7,_,ho|8,_,ho|9,_,ho|10,_,ho|11,_,ho|24,_,ho|37,_,ho =>
    have hz:=zcx hs
    simp only [zau,AllA,fst10D,zck,Region.binds] at hz
    exact zal ho rfl (by unfold zau execOp;simp only [hz,u10,u11,u7,u8,u9,zck];first|(go_simp;done)|(go_simp;with_reducible rfl)) (hK w hSw)
   | 12,_,ho|13,_,ho|14,_,ho|15,_,ho|16,_,ho|17,_,ho|18,_,ho|19,_,ho|20,_,ho|21,_,ho|22,_,ho|25,_,ho|26,_,ho|27,_,ho|28,_,ho|29,_,ho|30,_,ho|31,_,ho|32,_,ho|33,_,ho|34,_,ho|35,_,ho|38,_,ho|39,_,ho|40,_,ho|41,_,ho|42,_,ho =>
    have hz:=zcx hs
    simp only [zau,AllA,fst10D,zck,Region.binds] at hz
    exact op_gd ho rfl (zdm ps _ (by decide)) rfl (by simp only [hz]) (fun hc=>by subst hc;unfold zau execOp;simp only [hz,u10,u11,u7,u8,u9,cond_true];first|(go_simp;done)|(go_simp;with_reducible rfl)) (hK w hSw)
   | 23,_,ho =>
   have s11:=hs 11 41 (by rfl) rfl
   have s22:=hs 22 52 (by rfl) rfl
   cases b10
   all_goals ((try simp only [zck,cond_true,cond_false,Bool.not_true,Bool.not_false,Bool.and_true,Bool.true_and,Bool.and_false,Bool.false_and] at s11 s22);(try (simp only [Bool.true_or,Bool.false_or,Bool.true_and,Bool.false_and] at hd23;subst hd23));exact zal ho rfl (by unfold zau execOp;simp only [s11,s22,zck,cond_true,cond_false,Bool.not_true,Bool.not_false,Bool.and_true,Bool.true_and,Bool.and_false,Bool.false_and];first|(go_simp;done)|(go_simp;with_reducible rfl)) (hK w hSw))
   | 36,_,ho =>
   have s24:=hs 24 54 (by rfl) rfl
   have s35:=hs 35 65 (by rfl) rfl
   cases d23
   all_goals ((try simp only [zck,cond_true,cond_false,Bool.not_true,Bool.not_false,Bool.and_true,Bool.true_and,Bool.and_false,Bool.false_and] at s24 s35);(try (simp only [Bool.true_or,Bool.false_or,Bool.true_and,Bool.false_and] at hd36;subst hd36));exact zal ho rfl (by unfold zau execOp;simp only [s24,s35,zck,cond_true,cond_false,Bool.not_true,Bool.not_false,Bool.and_true,Bool.true_and,Bool.and_false,Bool.false_and];first|(go_simp;done)|(go_simp;with_reducible rfl)) (hK w hSw))
   | 43,_,ho =>
   have s41:=hs 41 71 (by rfl) rfl
   have s42:=hs 42 72 (by rfl) rfl
   have s37:=hs 37 67 (by rfl) rfl
   cases d36
   all_goals ((try simp only [zck,cond_true,cond_false,Bool.not_true,Bool.not_false,Bool.and_true,Bool.true_and,Bool.and_false,Bool.false_and] at s41 s42 s37);first|(exact zat ho (by rw [zae rfl (zdm ps 37 (by decide)) rfl s37];rfl) (hK w hSw))|(exact zbr ho (by rw [zae rfl (zdm ps 37 (by decide)) rfl s37];rfl) (f:=47) (args:=#[.agg #[.int .i64 s.1,.int .i64 s.2],.slice va m vc]) (by rw [zbz rfl enter_inT];simp only [List.map_toArray,List.map_cons,List.map_nil,s41,s42];try rfl) ((zfn s va vc ol w hSw.2.2.2.2.2 m hm b101 hb101).mono (fun e w' hh=>⟨_,hh.1,hK w' ⟨Below.on hSw.1 hh.2,(hh.2.cell (p:=⟨ob,oo+i*2,none⟩) (zac hSw.2.1)).trans hSw.2.1,(hh.2.cell (p:=⟨ob,oo+i*2+1,none⟩) (zac hSw.2.2.1)).trans hSw.2.2.1,(hh.2.cell (p:=⟨ab,ao+j*2,none⟩) (zac hSw.2.2.2.1)).trans hSw.2.2.2.1,(hh.2.cell (p:=⟨ab,ao+j*2+1,none⟩) (zac hSw.2.2.2.2.1)).trans hSw.2.2.2.2.1,hSw.2.2.2.2.2.later hh.2⟩⟩))))
   | 44,_,ho =>
   have s43:=hs 43 73 (by rfl) rfl
   have s37:=hs 37 67 (by rfl) rfl
   cases d36
   all_goals ((try simp only [zck,cond_true,cond_false,Bool.not_true,Bool.not_false,Bool.and_true,Bool.true_and,Bool.and_false,Bool.false_and] at s43 s37);subst hd44;first|(exact zat ho (by rw [zae rfl (zdm ps 37 (by decide)) rfl s37];rfl) (hK w hSw))|(exact zal ho (by rw [zae rfl (zdm ps 37 (by decide)) rfl s37];rfl) (by unfold zau execOp;simp only [s43,zck,cond_true,cond_false,Bool.not_true,Bool.not_false,Bool.and_true,Bool.true_and,Bool.and_false,Bool.false_and];first|(go_simp;done)|(go_simp;with_reducible rfl)) (hK w hSw)))
   | 45,_,ho =>
   have s37:=hs 37 67 (by rfl) rfl
   have s44:=hs 44 74 (by rfl) rfl
   cases d36
   all_goals ((try simp only [zck,cond_true,cond_false,Bool.not_true,Bool.not_false,Bool.and_true,Bool.true_and,Bool.and_false,Bool.false_and] at s37 s44);(try (simp only [Bool.true_or,Bool.false_or,Bool.true_and,Bool.false_and] at hd45;subst hd45));exact zal ho rfl (by unfold zau execOp;simp only [s37,s44,zck,cond_true,cond_false,Bool.not_true,Bool.not_false,Bool.and_true,Bool.true_and,Bool.and_false,Bool.false_and];first|(go_simp;done)|(go_simp;with_reducible rfl)) (hK w hSw))
   | iq+46,hin,_=>exact absurd hin (by omega)
end Go.Proofs.Ytkigcdmlkmcdcaa
namespace Go.Proofs.Ytkigcdmlkmcdcaa
open Go.ChangeShapes Go.WideShapes Go.ChangeAt Go.RowKit
set_option linter.unusedVariables false
set_option linter.unusedSimpArgs false
structure FsR (w3 wr:World) (va:Option Addr) (vc:Nat) (SP out:List Tm):Prop where
 row:RowT wr w3.heap.size va out.length vc out
 bel:Below w3.heap.size w3 wr
 nd:out.Nodup
 sub:∀ s∈out,s∈SP
theorem row_one (w:World) (x:Tm):RowT (w.alloc (.cells #[.int .i64 x.1,.int .i64 x.2] 78)) w.heap.size (some ⟨w.heap.size,0,none⟩) 1 1 [x] :=
 row_mk (cur:=[.int .i64 x.1,.int .i64 x.2]) (Nat.le_refl _) (World.alloc_heap_new w _) (Nat.le_refl _) (by simp [maxLen]) rfl rfl rfl
theorem fst_step {s a:Tm} {SP out:List Tm} {j:Nat} (hs:SP[j]? = some s):Pl.fstIn (SP.drop j) a out=Pl.fstIn (SP.drop (j+1)) a (if s.1≤a.1∧a.2≤s.2∧a.1<a.2∧¬s∈out then out++[s] else out):=by
 rw [(zbl hs).1];rfl
set_option maxRecDepth 100000 in
set_option maxHeartbeats 8000000 in
theorem zgx (fa:Option Addr) (fc:Nat) (F:List Tm) (la:Option Addr) (lc:Nat) (es:List En) (x:Tm) (w:World) (hF:SpAt w fa fc F) (hP:PcsAt w la lc es) (SP:List Tm) (hSP:spnsW es=SP) (L:List Tm) (hL:(x::F).foldl (fun o a=>Pl.fstIn SP a o) []=L) :
 Calls Try.prog 43 #[.slice fa F.length fc,.slice la es.length lc,.agg #[.int .i64 x.1,.int .i64 x.2]] w fun e w'=>∃ va vc,e=.returned (.slice va L.length vc)∧RowT w' w.heap.size va L.length vc L∧Below w.heap.size w w':=by
 obtain ⟨W0,hW0⟩:∃ W0,w.alloc (.cells #[.int .i64 x.1,.int .i64 x.2] 78)=W0:=⟨_,rfl⟩
 have b0:Below w.heap.size w W0:=by rw [← hW0];exact zaa (Below.refl _ _) _
 have hX0:Box W0 w.heap.size 78 [.int .i64 x.1,.int .i64 x.2]:=by rw [← hW0];exact Box.new w 78 [.int .i64 x.1,.int .i64 x.2]
 obtain ⟨n,hn⟩:∃ n,es.length=n:=⟨_,rfl⟩
 obtain ⟨M,hM⟩:∃ M,F.length=M:=⟨_,rfl⟩
 have hn1:n*32≤140737488351232:=by have:=hP.reach;omega
 have hM1:M*16≤140737488351232:=by have:=hF.reach;omega
 have hnS:SP.length=n:=by rw [← hSP];unfold spnsW;rw [List.length_map,hn]
 have cS:=zey la lc es W0 (hP.later b0) n hn
 rw [hSP] at cS
 have HS:Hid (SpAt w fa fc F∧F.length=M∧SP.length=n∧Below w.heap.size w W0∧Box W0 w.heap.size 78 [.int .i64 x.1,.int .i64 x.2]∧(x::F).foldl (fun o a=>Pl.fstIn SP a o) []=L):=⟨hF,hM,hnS,b0,hX0,hL⟩
 rw [hn,hM]
 clear hF hP hSP hL hn hM b0 hX0 hnS
 go_enter Try.func43,Try.ntmps43
 go_wp2_with fail
 try rw [hW0]
 clear hW0
 refine cS.mono ?_
 rintro e w1 ⟨sa,sc,rfl,hrow,hB1⟩
 clear cS
 have hX1:=HS.out.2.2.2.2.1.later hB1
 have hbw1:Below w.heap.size w w1:=Below.on HS.out.2.2.2.1 hB1
 have hF2:=HS.out.1.later (Below.on hbw1 (zaa (Below.refl w1.heap.size w1) (.cells #[.int .i64 x.1,.int .i64 x.2] 78)))
 obtain ⟨oa,oc,w3,hr,hO3,hg3⟩:=zfz (w1.alloc (.cells #[.int .i64 x.1,.int .i64 x.2] 78)) w1.heap.size (some ⟨w1.heap.size,0,none⟩) 1 1 [x] (row_one w1 x) (by simp) fa fc F hF2.tims hF2.nil (by rw [HS.out.2.1];omega)
 have hb3:Below w1.heap.size w1 w3:=za4 (zaa (Below.refl w1.heap.size w1) _) (by simp) (row_one w1 x) hg3
 have d0:w1.cell? ⟨w.heap.size,0,none⟩=some (.int .i64 x.1):=hX1.cell 0 rfl
 have d1:w1.cell? ⟨w.heap.size,1,none⟩=some (.int .i64 x.2):=hX1.cell 1 rfl
 have HRN:Hid (_=_):=hr
 rw [HS.out.2.1] at HRN hO3
 obtain ⟨N,hN⟩:∃ N,1+M=N:=⟨_,rfl⟩
 rw [hN] at HRN hO3
 have HO:Hid (za0 w3 oa (x::F)∧za0 w3 sa SP∧(x::F).length=N∧SP.length=n∧Below w.heap.size w w3):=⟨hO3.tims,hrow.tims.later hb3,by rw [List.length_cons,HS.out.2.1];omega,HS.out.2.2.1,Below.on hbw1 hb3⟩
 have HL:Hid ((x::F).foldl (fun o a=>Pl.fstIn SP a o) []=L):=HS.out.2.2.2.2.2
 have hN1:N*16≤140737488355328:=by omega
 clear hr hO3 hg3 hb3 hX1 hbw1 hF2 hrow hB1 HS hN hM1
 go_wp2_with (at_builtin;refine Lib.wpList_append_run (w1.alloc (.cells #[.int .i64 x.1,.int .i64 x.2] 78)) rfl (.tmp 15) (.tmp 16) 25 25 rfl (.slice (some ⟨w1.heap.size,0,none⟩) 1 1) (.slice fa M fc) rfl rfl (.slice oa N oc) w3 HRN.out ?_)
 clear HRN d0 d1
 go_loopw [7,10] (fun vo vi wr=>∃ (i:Nat) (out:List Tm) (va:Option Addr) (m vc:Nat),vi=.int .i64 (i:Int)∧vo=.slice va m vc∧i≤N∧Hid (out.length=m∧FsR w3 wr va vc SP out∧((x::F).drop i).foldl (fun o a=>Pl.fstIn SP a o) out=L)) (fun _ vi _=>N-(intOf vi).toNat)
 case atStart=>exact ⟨0,[],none,0,0,rfl,rfl,Nat.zero_le _,rfl,⟨RowT.nil _ _,Below.refl _ _,List.nodup_nil,fun s hs=>by cases hs⟩,HL.out⟩
 case round =>
  obtain ⟨i,out,va,m,vc,rfl,rfl,hi,HR⟩:=hrel
  clear HL
  by_cases hlt:i<N
  · have hlt':(i:Int)<(N:Int):=by omega
    obtain ⟨ob,oo,ka,e1,e2⟩:=(HO.out.1).2 i (by rw [HO.out.2.2.1];exact hlt)
    subst ka
    obtain ⟨a,ha⟩:∃ a,(x::F)[i]? = some a:=⟨_,List.getElem?_eq_getElem (by rw [HO.out.2.2.1];exact hlt)⟩
    rw [ha] at e1 e2
    simp only [Option.getD_some] at e1 e2
    have HC:Hid (w3.cell? ⟨ob,oo+i*2,none⟩=some (.int .i64 a.1)∧w3.cell? ⟨ob,oo+i*2+1,none⟩=some (.int .i64 a.2)):=⟨e1,e2⟩
    have HG:Hid (((x::F).drop (i+1)).foldl (fun o a=>Pl.fstIn SP a o) (Pl.fstIn (SP.drop 0) a out)=L):=by
     have:=HR.out.2.2
     rw [(zbl ha).1] at this
     exact this
    clear e1 e2 ha
    go_wp2_with fail
    go_loopw [7,11] (fun vo vj wr=>∃ (j:Nat) (out:List Tm) (va:Option Addr) (m vc:Nat),vj=.int .i64 (j:Int)∧vo=.slice va m vc∧j≤n∧Hid (out.length=m∧FsR w3 wr va vc SP out∧((x::F).drop (i+1)).foldl (fun o a=>Pl.fstIn SP a o) (Pl.fstIn (SP.drop j) a out)=L)) (fun _ vj _=>n-(intOf vj).toNat)
    case atStart=>exact ⟨0,out,va,m,vc,rfl,rfl,Nat.zero_le _,HR.out.1,HR.out.2.1,HG.out⟩
    case round =>
     clear HR HG
     obtain ⟨j,out,va,m,vc,rfl,rfl,hj,HR⟩:=hrel
     by_cases hlj:j<n
     · have hlj':(j:Int)<(n:Int):=by omega
       obtain ⟨ab,ao,ka,e1,e2⟩:=(HO.out.2.1).2 j (by rw [HO.out.2.2.2.1];exact hlj)
       subst ka
       obtain ⟨s,hs⟩:∃ s,SP[j]? = some s:=⟨_,List.getElem?_eq_getElem (by rw [HO.out.2.2.2.1];exact hlj)⟩
       rw [hs] at e1 e2
       simp only [Option.getD_some] at e1 e2
       have hbw:=HR.out.2.1.bel
       have c1:=(hbw.cell (p:=⟨ob,oo+i*2,none⟩) (zac HC.out.1)).trans HC.out.1
       have c2:=(hbw.cell (p:=⟨ob,oo+i*2+1,none⟩) (zac HC.out.2)).trans HC.out.2
       have c3:=(hbw.cell (p:=⟨ab,ao+j*2,none⟩) (zac e1)).trans e1
       have c4:=(hbw.cell (p:=⟨ab,ao+j*2+1,none⟩) (zac e2)).trans e2
       have hmn:m≤n:=by rw [← HR.out.1,← HO.out.2.2.2.1];exact zc9 HR.out.2.1.nd HR.out.2.1.sub
       obtain ⟨d,hd⟩:∃ d,(((decide (s.1≤a.1)&&decide (a.2≤s.2))&&decide (a.1<a.2)) && !(decide (s∈out)))=d:=⟨_,rfl⟩
       have HD:Hid (d=true↔s.1≤a.1∧a.2≤s.2∧a.1<a.2∧¬s∈out):=by
        unfold Hid;rw [← hd];simp only [Bool.and_eq_true,decide_eq_true_eq,Bool.not_eq_true',decide_eq_false_iff_not,and_assoc]
       have HSJ:Hid (SP[j]? = some s):=hs
       clear e1 e2 hs hbw
       go_upto_region 10 with fail
       refine fst10_reg rfl va m vc ab ao n _ ob oo N _ i j a s rfl rfl rfl rfl rfl out hlt' hlj' c1 c2 c3 c4 HR.out.2.1.row.tims HR.out.1 rfl rfl rfl rfl rfl rfl rfl hd ?_
       intro T2 W2 hT2 hS2
       have HW2:Hid (FsR w3 W2 va vc SP out∧Below wr.heap.size wr W2):=⟨⟨HR.out.2.1.row.later hS2.1,Below.on HR.out.2.1.bel hS2.1,HR.out.2.1.nd,HR.out.2.1.sub⟩,hS2.1⟩
       have s3:=hS2.2.2.2.1
       have s4:=hS2.2.2.2.2.1
       clear hS2 hd c1 c2 c3 c4
       simp only [Act.put,qA,qZ,qS]
       rw [hT2]
       clear hT2
       as_aux_lemma =>
        cases d with
        | true =>
         have HE:Hid (((x::F).drop (i+1)).foldl (fun o a=>Pl.fstIn SP a o) (Pl.fstIn (SP.drop (j+1)) a (out++[s]))=L):=by
          have:=HR.out.2.2
          rw [fst_step HSJ.out,if_pos (HD.out.1 rfl)] at this
          exact this
         obtain ⟨W3,hW3⟩:∃ W3,W2.alloc (.cells #[.int .i64 s.1,.int .i64 s.2] 78)=W3:=⟨_,rfl⟩
         have b3:Below W2.heap.size W2 W3:=by rw [← hW3];exact zaa (Below.refl _ _) _
         have h1:za0 W3 (some ⟨W2.heap.size,0,none⟩) [s]:=by rw [← hW3];exact (row_one W2 s).tims
         have hO:RowT W3 w3.heap.size va m vc out:=by have:=HW2.out.1.row.later b3;rw [HR.out.1] at this;exact this
         have hsz:w3.heap.size≤W3.heap.size:=Nat.le_trans HW2.out.1.bel.size b3.size
         obtain ⟨va',vc',w5,hr,hO5,hg5⟩:=zfz W3 w3.heap.size va m vc out hO hsz (some ⟨W2.heap.size,0,none⟩) 1 [s] h1 (fun e=>by cases e) (by simp only [List.length_cons,List.length_nil];omega)
         have HRN:Hid (_=_):=hr
         simp only [List.length_cons,List.length_nil,Nat.zero_add] at HRN hO5
         have HN:Hid ((out++[s]).length=m+1∧FsR w3 w5 va' vc' SP (out++[s])):=by
          have hl:(out++[s]).length=m+1:=by rw [List.length_append,HR.out.1];rfl
          refine ⟨hl,by rw [hl];exact hO5,HW2.out.1.bel.trans (za4 (b3.mono HW2.out.1.bel.size) hsz hO hg5),?_,?_⟩
          · rw [List.nodup_append]
            refine ⟨HW2.out.1.nd,by simp,fun p hp q hq e=>?_⟩
            simp at hq
            subst hq;subst e
            exact (HD.out.1 rfl).2.2.2 hp
          · intro p hp
            rcases List.mem_append.1 hp with hp|hp
            · exact HW2.out.1.sub p hp
            · simp at hp;subst hp;exact List.mem_of_getElem? HSJ.out
         clear b3 h1 hO hsz hr hO5 hg5 HW2 HD HSJ HR HC
         go_wp2_with (at_builtin;(try rw [hW3]);refine Lib.wpList_append_run W3 rfl (.tmp 76) (.tmp 81) 25 25 rfl (.slice va m vc) (.slice (some ⟨W2.heap.size,0,none⟩) 1 1) rfl rfl (.slice va' (m+1) vc') w5 HRN.out ?_)
         go_roundw
         case rel=>exact ⟨j+1,out++[s],va',m+1,vc',by go_num,rfl,by omega,HN.out.1,HN.out.2,HE.out⟩
         case measure=>simp [intOf];omega
        | false =>
         have HE:Hid (((x::F).drop (i+1)).foldl (fun o a=>Pl.fstIn SP a o) (Pl.fstIn (SP.drop (j+1)) a out)=L):=by
          have:=HR.out.2.2
          rw [fst_step HSJ.out,if_neg (fun h=>by have:=HD.out.2 h;cases this)] at this
          exact this
         go_wp2_with fail
         go_roundw
         case rel=>exact ⟨j+1,out,va,m,vc,by go_num,rfl,by omega,HR.out.1,HW2.out.1,HE.out⟩
         case measure=>simp [intOf];omega
     · obtain rfl:j=n:=by omega
       have hge:¬((j:Int)<(j:Int)):=by omega
       have HE:Hid (((x::F).drop (i+1)).foldl (fun o a=>Pl.fstIn SP a o) out=L):=by
        have:=HR.out.2.2
        rw [List.drop_eq_nil_of_le (by rw [HO.out.2.2.2.1];exact Nat.le_refl _)] at this
        exact this
       go_wp2_with fail
       go_roundw
       case rel=>exact ⟨i+1,out,va,m,vc,by go_num,rfl,by omega,HR.out.1,HR.out.2.1,HE.out⟩
       case measure=>simp [intOf];omega
  · obtain rfl:i=N:=by omega
    have hge:¬((i:Int)<(i:Int)):=by omega
    go_wp2_with fail
    go_ret
    have he:out=L:=by
     have:=HR.out.2.2
     rw [List.drop_eq_nil_of_le (by rw [HO.out.2.2.1];exact Nat.le_refl _)] at this
     exact this
    subst he
    refine ⟨va,vc,by rw [HR.out.1];rfl,?_,HO.out.2.2.2.2.trans (HR.out.2.1.bel.mono HO.out.2.2.2.2.size)⟩
    exact HR.out.2.1.row.mono HO.out.2.2.2.2.size
end Go.Proofs.Ytkigcdmlkmcdcaa
