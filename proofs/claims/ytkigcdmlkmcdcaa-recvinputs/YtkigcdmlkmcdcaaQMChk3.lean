/- The document's Check: region 3. -/
import Derived.Test.YtkigcdmlkmcdcaaQZ
import Derived.Test.YtkigcdmlkmcdcaaQMDetU
namespace Go.Proofs.Ytkigcdmlkmcdcaa
open Go.ChangeShapes Go.WideShapes Go.ChangeAt Go.RowKit
set_option linter.unusedVariables false
set_option linter.unusedSimpArgs false
theorem enter_reach (args:Array Value) (w:World):(callFunc 45 args).run Try.prog w=.ok (.enter 45 args) w:=by kernel_rfl
def chk3O (ps:String):Nat→Oper
 | 0=>⟨some 52,.fieldAddr 27 (.tmp 1) 9,0,ps,#[],none⟩
 | 1=>⟨some 53,.load 3 (.tmp 52),3,ps,#[⟨0,.data⟩],none⟩
 | 2=>⟨some 54,.binOp .lss 3 (.tmp 53) (.const (.int .i64 (-1))) 3,4,ps,#[⟨1,.data⟩],none⟩
 | 3=>⟨some 55,.move (.tmp 54),4,ps,#[⟨2,.data⟩],none⟩
 | 4=>⟨some 56,.fieldAddr 27 (.tmp 1) 9,0,ps,#[⟨3,.guard⟩],some (3,false)⟩
 | 5=>⟨some 57,.load 3 (.tmp 56),3,ps,#[⟨4,.data⟩,⟨3,.guard⟩],some (3,false)⟩
 | 6=>⟨some 58,.binOp .geq 3 (.tmp 57) (.const (.int .i64 0)) 3,4,ps,#[⟨5,.data⟩,⟨3,.guard⟩],some (3,false)⟩
 | 7=>⟨some 59,.move (.tmp 58),4,ps,#[⟨6,.data⟩,⟨3,.chain⟩,⟨3,.guard⟩],some (3,false)⟩
 | 8=>⟨some 60,.fieldAddr 27 (.tmp 1) 9,0,ps,#[⟨7,.guard⟩],some (7,true)⟩
 | 9=>⟨some 61,.load 3 (.tmp 60),3,ps,#[⟨8,.data⟩,⟨7,.guard⟩],some (7,true)⟩
 | 10=>⟨some 62,.fieldAddr 27 (.tmp 1) 0,0,ps,#[⟨7,.guard⟩],some (7,true)⟩
 | 11=>⟨some 63,.load 3 (.tmp 62),3,ps,#[⟨10,.data⟩,⟨7,.guard⟩],some (7,true)⟩
 | 12=>⟨some 64,.binOp .lss 3 (.tmp 61) (.tmp 63) 3,4,ps,#[⟨9,.data⟩,⟨11,.data⟩,⟨7,.guard⟩],some (7,true)⟩
 | 13=>⟨some 65,.pick (.tmp 59) (.tmp 64) (.const (.bool false)),4,ps,#[⟨7,.data⟩,⟨12,.data⟩,⟨3,.guard⟩],some (3,false)⟩
 | 14=>⟨some 66,.pick (.tmp 55) (.const (.bool true)) (.tmp 65),4,ps,#[⟨3,.data⟩,⟨13,.data⟩],none⟩
 | 15=>⟨some 67,.move (.tmp 66),4,ps,#[⟨14,.data⟩,⟨7,.chain⟩],none⟩
 | 16=>⟨some 68,.fieldAddr 27 (.tmp 1) 9,0,ps,#[⟨15,.guard⟩],some (15,false)⟩
 | 17=>⟨some 69,.load 3 (.tmp 68),3,ps,#[⟨16,.data⟩,⟨15,.guard⟩],some (15,false)⟩
 | 18=>⟨some 70,.binOp .gtr 3 (.tmp 69) (.const (.int .i64 562949953421312)) 3,4,ps,#[⟨17,.data⟩,⟨15,.guard⟩],some (15,false)⟩
 | 19=>⟨some 71,.pick (.tmp 67) (.const (.bool true)) (.tmp 70),4,ps,#[⟨15,.data⟩,⟨18,.data⟩],none⟩
 | 20=>⟨some 72,.move (.tmp 71),4,ps,#[⟨19,.data⟩,⟨15,.chain⟩],none⟩
 | 21=>⟨some 73,.fieldAddr 27 (.tmp 1) 5,0,ps,#[⟨20,.guard⟩],some (20,false)⟩
 | 22=>⟨some 74,.load 3 (.tmp 73),3,ps,#[⟨21,.data⟩,⟨20,.guard⟩],some (20,false)⟩
 | 23=>⟨some 75,.binOp .lss 3 (.tmp 74) (.const (.int .i64 0)) 3,4,ps,#[⟨22,.data⟩,⟨20,.guard⟩],some (20,false)⟩
 | 24=>⟨some 76,.pick (.tmp 72) (.const (.bool true)) (.tmp 75),4,ps,#[⟨20,.data⟩,⟨23,.data⟩],none⟩
 | 25=>⟨some 77,.move (.tmp 76),4,ps,#[⟨24,.data⟩,⟨20,.chain⟩],none⟩
 | 26=>⟨some 78,.fieldAddr 27 (.tmp 1) 5,0,ps,#[⟨25,.guard⟩],some (25,false)⟩
 | 27=>⟨some 79,.load 3 (.tmp 78),3,ps,#[⟨26,.data⟩,⟨25,.guard⟩],some (25,false)⟩
 | 28=>⟨some 80,.load 27 (.tmp 1),27,ps,#[⟨25,.guard⟩],some (25,false)⟩
 | 29=>⟨some 81,.call { callee:=.value (.func 45),args:=#[.tmp 80],argTypes:=#[27]},3,ps,#[⟨28,.data⟩,⟨25,.chain⟩,⟨25,.guard⟩],some (25,false)⟩
 | 30=>⟨some 82,.binOp .gtr 3 (.tmp 79) (.tmp 81) 3,4,ps,#[⟨27,.data⟩,⟨29,.data⟩,⟨25,.guard⟩],some (25,false)⟩
 | _=>⟨some 83,.pick (.tmp 77) (.const (.bool true)) (.tmp 82),4,ps,#[⟨25,.data⟩,⟨30,.data⟩],none⟩
def chk3 (ps:String):Array Oper:=#[chk3O ps 0,chk3O ps 1,chk3O ps 2,chk3O ps 3,chk3O ps 4,chk3O ps 5,chk3O ps 6,chk3O ps 7,chk3O ps 8,chk3O ps 9,chk3O ps 10,chk3O ps 11,chk3O ps 12,chk3O ps 13,chk3O ps 14,chk3O ps 15,chk3O ps 16,chk3O ps 17,chk3O ps 18,chk3O ps 19,chk3O ps 20,chk3O ps 21,chk3O ps 22,chk3O ps 23,chk3O ps 24,chk3O ps 25,chk3O ps 26,chk3O ps 27,chk3O ps 28,chk3O ps 29,chk3O ps 30,chk3O ps 31]
theorem zbq (ps:String):∀ i,i<32→(chk3 ps)[i]? = some (chk3O ps i)
 | 0,_|1,_|2,_|3,_|4,_|5,_|6,_|7,_|8,_|9,_|10,_|11,_|12,_|13,_|14,_|15,_|16,_|17,_|18,_|19,_|20,_|21,_|22,_|23,_|24,_|25,_|26,_|27,_|28,_|29,_|30,_|31,_=>rfl
 | i+32,h=>absurd h (by omega)
def chk3D:Nat→Option Tmp
 | 0=>some 52
 | 1=>some 53
 | 2=>some 54
 | 3=>some 55
 | 4=>some 56
 | 5=>some 57
 | 6=>some 58
 | 7=>some 59
 | 8=>some 60
 | 9=>some 61
 | 10=>some 62
 | 11=>some 63
 | 12=>some 64
 | 13=>some 65
 | 14=>some 66
 | 15=>some 67
 | 16=>some 68
 | 17=>some 69
 | 18=>some 70
 | 19=>some 71
 | 20=>some 72
 | 21=>some 73
 | 22=>some 74
 | 23=>some 75
 | 24=>some 76
 | 25=>some 77
 | 26=>some 78
 | 27=>some 79
 | 28=>some 80
 | 29=>some 81
 | 30=>some 82
 | 31=>some 83
 | _=>none
def chk3T (r:Pl.Rv) (h:Hd) (g:Nat) (b2 b6 b12 d13 d14 b18 d19 b23 d24 b30 d31:Bool):Nat→Value
 | 0=>.pointer (some ⟨g,9,none⟩)
 | 1=>.int .i64 r.fin
 | 2=>.bool b2
 | 3=>.bool b2
 | 4=>cond (!b2) (.pointer (some ⟨g,9,none⟩)) undef
 | 5=>cond (!b2) (.int .i64 r.fin) undef
 | 6=>cond (!b2) (.bool b6) undef
 | 7=>cond (!b2) (.bool b6) undef
 | 8=>cond (!b2&&b6) (.pointer (some ⟨g,9,none⟩)) undef
 | 9=>cond (!b2&&b6) (.int .i64 r.fin) undef
 | 10=>cond (!b2&&b6) (.pointer (some ⟨g,0,none⟩)) undef
 | 11=>cond (!b2&&b6) (.int .i64 r.s.n) undef
 | 12=>cond (!b2&&b6) (.bool b12) undef
 | 13=>cond (!b2) (.bool d13) undef
 | 14=>.bool d14
 | 15=>.bool d14
 | 16=>cond (!d14) (.pointer (some ⟨g,9,none⟩)) undef
 | 17=>cond (!d14) (.int .i64 r.fin) undef
 | 18=>cond (!d14) (.bool b18) undef
 | 19=>.bool d19
 | 20=>.bool d19
 | 21=>cond (!d19) (.pointer (some ⟨g,5,none⟩)) undef
 | 22=>cond (!d19) (.int .i64 r.edge) undef
 | 23=>cond (!d19) (.bool b23) undef
 | 24=>.bool d24
 | 25=>.bool d24
 | 26=>cond (!d24) (.pointer (some ⟨g,5,none⟩)) undef
 | 27=>cond (!d24) (.int .i64 r.edge) undef
 | 28=>cond (!d24) (.agg #[.int .i64 r.s.n,.slice h.ua r.s.u.length h.uc,.slice h.la h.es.length h.lc,.int .i64 r.cap,.int .i64 r.shift,.int .i64 r.edge,.int .u32 r.recent,.bool r.stamps,.bool r.sacks,.int .i64 r.fin,.bool r.dn,.slice h.fa r.first.length h.fc,.int .u32 r.irs,.int .u32 r.own,.bool r.stamp]) undef
 | 29=>cond (!d24) (.int .i64 r.reach) undef
 | 30=>cond (!d24) (.bool b30) undef
 | 31=>.bool d31
 | _=>undef
set_option maxRecDepth 100000 in
set_option maxHeartbeats 4000000 in
theorem chk3_reg {ps:String} {Q:Exit→Act→World→Prop} {a0:Act} {W0:World} (sz:a0.tmps.size=199) (r:Pl.Rv) (h:Hd) (g:Nat)
 (e1:a0.eval (.tmp 1)=.pointer (some ⟨g,0,none⟩))
 (hl:lowB r) (hb:Box W0 g 27 (rvL r h))
 {b2 b6 b12 d13 d14 b18 d19 b23 d24 b30 d31:Bool} (hb2:decide (r.fin < -1)=b2)
 (hb6:decide (0≤r.fin)=b6)
 (hb12:decide (r.fin<r.s.n)=b12)
 (hd13:(b6&&b12)=d13)
 (hd14:(b2 || d13)=d14)
 (hb18:decide (562949953421312<r.fin)=b18)
 (hd19:(d14 || b18)=d19)
 (hb23:decide (r.edge<0)=b23)
 (hd24:(d19 || b23)=d24)
 (hb30:decide (r.reach<r.edge)=b30)
 (hd31:(d24 || b30)=d31)
 (hfin:∀ (T:Nat→Value) w,T 31=.bool d31→(fun w=>Box w g 27 (rvL r h)∧Below W0.heap.size W0 w) w→Q .normal ((((((((((((((((((((((((((((((((a0.put (some 52) (T 0)).put (some 53) (T 1)).put (some 54) (T 2)).put (some 55) (T 3)).put (some 56) (T 4)).put (some 57) (T 5)).put (some 58) (T 6)).put (some 59) (T 7)).put (some 60) (T 8)).put (some 61) (T 9)).put (some 62) (T 10)).put (some 63) (T 11)).put (some 64) (T 12)).put (some 65) (T 13)).put (some 66) (T 14)).put (some 67) (T 15)).put (some 68) (T 16)).put (some 69) (T 17)).put (some 70) (T 18)).put (some 71) (T 19)).put (some 72) (T 20)).put (some 73) (T 21)).put (some 74) (T 22)).put (some 75) (T 23)).put (some 76) (T 24)).put (some 77) (T 25)).put (some 78) (T 26)).put (some 79) (T 27)).put (some 80) (T 28)).put (some 81) (T 29)).put (some 82) (T 30)).put (some 83) (T 31)) w) :
 (Code.region 3 (chk3 ps) true).wp Try.prog Q a0 W0:=by
 refine zby (by kernel_rfl) 32 rfl chk3D ?_ (by decide) (chk3T r h g b2 b6 b12 d13 d14 b18 d19 b23 d24 b30 d31) (fun w=>Box w g 27 (rvL r h)∧Below W0.heap.size W0 w) ⟨hb.of_heap rfl,Below.drew (Below.refl _ _)⟩ ?_ (by rfl) (fun w hSw=>hfin (chk3T r h g b2 b6 b12 d13 d14 b18 d19 b23 d24 b30 d31) w rfl hSw)
 · intro jq t hj ht
   have:∀ j,j<32→(chk3D j).all (· < 199)=true:=by decide
   have:=this jq hj
   rw [ht] at this
   rw [sz]
   simpa using this
 · intro iq o ho a w hSw hs hel K hK
   have hin:iq<32:=(Array.getElem?_eq_some_iff.1 ho).1
   have u1:a.eval (.tmp 1)=.pointer (some ⟨g,0,none⟩):=(hel 1 (by decide)).trans e1
   have q0:=hSw.1.cell 9 rfl
   have q1:=hSw.1.cell 5 rfl
   have q2:=Box.c15 hSw.1
   obtain rfl:=Option.some.inj (ho.symm.trans (zbq ps iq hin))
   match iq,hin,ho with
   | 0,_,ho|1,_,ho|2,_,ho|3,_,ho|15,_,ho|20,_,ho|25,_,ho =>
    have hz:=zcx hs
    simp only [chk3O,AllA,chk3D,chk3T,Region.binds] at hz
    exact zal ho rfl (by unfold chk3O execOp;simp only [hz,u1,chk3T];first|(go_simp;done)|(go_simp;with_reducible rfl)) (hK w hSw)
   | 4,_,ho|5,_,ho|6,_,ho|7,_,ho|16,_,ho|17,_,ho|18,_,ho|21,_,ho|22,_,ho|23,_,ho|26,_,ho|27,_,ho|28,_,ho|30,_,ho =>
    have hz:=zcx hs
    simp only [chk3O,AllA,chk3D,chk3T,Region.binds] at hz
    exact op_gn ho rfl (zbq ps _ (by decide)) rfl (by simp only [hz]) (fun hc=>by subst hc;unfold chk3O execOp;simp only [hz,u1,Bool.not_false,cond_true];first|(go_simp;done)|(go_simp;with_reducible rfl)) (hK w hSw)
   | 8,_,ho =>
   have s7:=hs 7 59 (by rfl) rfl
   cases b2<;>cases b6
   all_goals ((try simp only [chk3T,cond_true,cond_false,Bool.not_true,Bool.not_false,Bool.and_true,Bool.true_and,Bool.and_false,Bool.false_and] at s7);first|(exact zat ho (by rw [zae rfl (zbq ps 7 (by decide)) rfl s7];rfl) (hK w hSw))|(exact zal ho (by rw [zae rfl (zbq ps 7 (by decide)) rfl s7];rfl) (by unfold chk3O execOp;simp only [u1,chk3T,cond_true,cond_false,Bool.not_true,Bool.not_false,Bool.and_true,Bool.true_and,Bool.and_false,Bool.false_and];first|(go_simp;done)|(go_simp;with_reducible rfl)) (hK w hSw)))
   | 9,_,ho =>
   have s8:=hs 8 60 (by rfl) rfl
   have s7:=hs 7 59 (by rfl) rfl
   have hcl:=hSw.1.cell 9 rfl
   cases b2<;>cases b6
   all_goals ((try simp only [chk3T,cond_true,cond_false,Bool.not_true,Bool.not_false,Bool.and_true,Bool.true_and,Bool.and_false,Bool.false_and] at s8 s7);first|(exact zat ho (by rw [zae rfl (zbq ps 7 (by decide)) rfl s7];rfl) (hK w hSw))|(exact zal ho (by rw [zae rfl (zbq ps 7 (by decide)) rfl s7];rfl) (by unfold chk3O execOp;simp only [s8,chk3T,cond_true,cond_false,Bool.not_true,Bool.not_false,Bool.and_true,Bool.true_and,Bool.and_false,Bool.false_and];first|(go_simp;done)|(go_simp;with_reducible rfl)) (hK w hSw)))
   | 10,_,ho =>
   have s7:=hs 7 59 (by rfl) rfl
   cases b2<;>cases b6
   all_goals ((try simp only [chk3T,cond_true,cond_false,Bool.not_true,Bool.not_false,Bool.and_true,Bool.true_and,Bool.and_false,Bool.false_and] at s7);first|(exact zat ho (by rw [zae rfl (zbq ps 7 (by decide)) rfl s7];rfl) (hK w hSw))|(exact zal ho (by rw [zae rfl (zbq ps 7 (by decide)) rfl s7];rfl) (by unfold chk3O execOp;simp only [u1,chk3T,cond_true,cond_false,Bool.not_true,Bool.not_false,Bool.and_true,Bool.true_and,Bool.and_false,Bool.false_and];first|(go_simp;done)|(go_simp;with_reducible rfl)) (hK w hSw)))
   | 11,_,ho =>
   have s10:=hs 10 62 (by rfl) rfl
   have s7:=hs 7 59 (by rfl) rfl
   have hcl:=hSw.1.cell 0 rfl
   cases b2<;>cases b6
   all_goals ((try simp only [chk3T,cond_true,cond_false,Bool.not_true,Bool.not_false,Bool.and_true,Bool.true_and,Bool.and_false,Bool.false_and] at s10 s7);first|(exact zat ho (by rw [zae rfl (zbq ps 7 (by decide)) rfl s7];rfl) (hK w hSw))|(exact zal ho (by rw [zae rfl (zbq ps 7 (by decide)) rfl s7];rfl) (by unfold chk3O execOp;simp only [s10,chk3T,cond_true,cond_false,Bool.not_true,Bool.not_false,Bool.and_true,Bool.true_and,Bool.and_false,Bool.false_and];first|(go_simp;done)|(go_simp;with_reducible rfl)) (hK w hSw)))
   | 12,_,ho =>
   have s9:=hs 9 61 (by rfl) rfl
   have s11:=hs 11 63 (by rfl) rfl
   have s7:=hs 7 59 (by rfl) rfl
   cases b2<;>cases b6
   all_goals ((try simp only [chk3T,cond_true,cond_false,Bool.not_true,Bool.not_false,Bool.and_true,Bool.true_and,Bool.and_false,Bool.false_and] at s9 s11 s7);first|(exact zat ho (by rw [zae rfl (zbq ps 7 (by decide)) rfl s7];rfl) (hK w hSw))|(exact zal ho (by rw [zae rfl (zbq ps 7 (by decide)) rfl s7];rfl) (by unfold chk3O execOp;simp only [s9,s11,chk3T,cond_true,cond_false,Bool.not_true,Bool.not_false,Bool.and_true,Bool.true_and,Bool.and_false,Bool.false_and];first|(go_simp;done)|(go_simp;with_reducible rfl)) (hK w hSw)))
   | 13,_,ho =>
   have s7:=hs 7 59 (by rfl) rfl
   have s12:=hs 12 64 (by rfl) rfl
   have s3:=hs 3 55 (by rfl) rfl
   cases b2<;>cases b6
   all_goals ((try simp only [chk3T,cond_true,cond_false,Bool.not_true,Bool.not_false,Bool.and_true,Bool.true_and,Bool.and_false,Bool.false_and] at s7 s12 s3);(try (simp only [Bool.true_or,Bool.false_or,Bool.true_and,Bool.false_and] at hd13;subst hd13));first|(exact zat ho (by rw [zae rfl (zbq ps 3 (by decide)) rfl s3];rfl) (hK w hSw))|(exact zal ho (by rw [zae rfl (zbq ps 3 (by decide)) rfl s3];rfl) (by unfold chk3O execOp;simp only [s7,s12,chk3T,cond_true,cond_false,Bool.not_true,Bool.not_false,Bool.and_true,Bool.true_and,Bool.and_false,Bool.false_and];first|(go_simp;done)|(go_simp;with_reducible rfl)) (hK w hSw)))
   | 14,_,ho =>
   have s3:=hs 3 55 (by rfl) rfl
   have s13:=hs 13 65 (by rfl) rfl
   cases b2
   all_goals ((try simp only [chk3T,cond_true,cond_false,Bool.not_true,Bool.not_false,Bool.and_true,Bool.true_and,Bool.and_false,Bool.false_and] at s3 s13);(try (simp only [Bool.true_or,Bool.false_or,Bool.true_and,Bool.false_and] at hd14;subst hd14));exact zal ho rfl (by unfold chk3O execOp;simp only [s3,s13,chk3T,cond_true,cond_false,Bool.not_true,Bool.not_false,Bool.and_true,Bool.true_and,Bool.and_false,Bool.false_and];first|(go_simp;done)|(go_simp;with_reducible rfl)) (hK w hSw))
   | 19,_,ho =>
   have s15:=hs 15 67 (by rfl) rfl
   have s18:=hs 18 70 (by rfl) rfl
   cases d14
   all_goals ((try simp only [chk3T,cond_true,cond_false,Bool.not_true,Bool.not_false,Bool.and_true,Bool.true_and,Bool.and_false,Bool.false_and] at s15 s18);(try (simp only [Bool.true_or,Bool.false_or,Bool.true_and,Bool.false_and] at hd19;subst hd19));exact zal ho rfl (by unfold chk3O execOp;simp only [s15,s18,chk3T,cond_true,cond_false,Bool.not_true,Bool.not_false,Bool.and_true,Bool.true_and,Bool.and_false,Bool.false_and];first|(go_simp;done)|(go_simp;with_reducible rfl)) (hK w hSw))
   | 24,_,ho =>
   have s20:=hs 20 72 (by rfl) rfl
   have s23:=hs 23 75 (by rfl) rfl
   cases d19
   all_goals ((try simp only [chk3T,cond_true,cond_false,Bool.not_true,Bool.not_false,Bool.and_true,Bool.true_and,Bool.and_false,Bool.false_and] at s20 s23);(try (simp only [Bool.true_or,Bool.false_or,Bool.true_and,Bool.false_and] at hd24;subst hd24));exact zal ho rfl (by unfold chk3O execOp;simp only [s20,s23,chk3T,cond_true,cond_false,Bool.not_true,Bool.not_false,Bool.and_true,Bool.true_and,Bool.and_false,Bool.false_and];first|(go_simp;done)|(go_simp;with_reducible rfl)) (hK w hSw))
   | 29,_,ho =>
   have s28:=hs 28 80 (by rfl) rfl
   have s25:=hs 25 77 (by rfl) rfl
   cases d24
   all_goals ((try simp only [chk3T,cond_true,cond_false,Bool.not_true,Bool.not_false,Bool.and_true,Bool.true_and,Bool.and_false,Bool.false_and] at s28 s25);first|(exact zat ho (by rw [zae rfl (zbq ps 25 (by decide)) rfl s25];rfl) (hK w hSw))|(exact zbr ho (by rw [zae rfl (zbq ps 25 (by decide)) rfl s25];rfl) (f:=45) (args:=#[.agg #[.int .i64 r.s.n,.slice h.ua r.s.u.length h.uc,.slice h.la h.es.length h.lc,.int .i64 r.cap,.int .i64 r.shift,.int .i64 r.edge,.int .u32 r.recent,.bool r.stamps,.bool r.sacks,.int .i64 r.fin,.bool r.dn,.slice h.fa r.first.length h.fc,.int .u32 r.irs,.int .u32 r.own,.bool r.stamp]]) (by rw [zbz rfl enter_reach];simp only [List.map_toArray,List.map_cons,List.map_nil,s28];try rfl) ((zea r h w hl).mono (fun e w' hh=>⟨_,hh.1,hK w' ⟨hSw.1.later hh.2,Below.on hSw.2 hh.2⟩⟩))))
   | 31,_,ho =>
   have s25:=hs 25 77 (by rfl) rfl
   have s30:=hs 30 82 (by rfl) rfl
   cases d24
   all_goals ((try simp only [chk3T,cond_true,cond_false,Bool.not_true,Bool.not_false,Bool.and_true,Bool.true_and,Bool.and_false,Bool.false_and] at s25 s30);(try (simp only [Bool.true_or,Bool.false_or,Bool.true_and,Bool.false_and] at hd31;subst hd31));exact zal ho rfl (by unfold chk3O execOp;simp only [s25,s30,chk3T,cond_true,cond_false,Bool.not_true,Bool.not_false,Bool.and_true,Bool.true_and,Bool.and_false,Bool.false_and];first|(go_simp;done)|(go_simp;with_reducible rfl)) (hK w hSw))
   | iq+32,hin,_=>exact absurd hin (by omega)
end Go.Proofs.Ytkigcdmlkmcdcaa
