/- The last region of RecvInputs. -/
import Derived.Test.YtkigcdmlkmcdcaaQZ
import Derived.Test.YtkigcdmlkmcdcaaQMRefTel2
import Derived.Test.YtkigcdmlkmcdcaaQMDetU
import Derived.Test.YtkigcdmlkmcdcaaQMToldW
import Derived.Test.YtkigcdmlkmcdcaaQMSpansW
namespace Go.Proofs.Ytkigcdmlkmcdcaa
open Go.ChangeShapes Go.WideShapes Go.ChangeAt Go.RowKit
set_option linter.unusedVariables false
set_option linter.unusedSimpArgs false
theorem enter_sameI (args:Array Value) (w:World):(callFunc 16 args).run Try.prog w=.ok (.enter 16 args) w:=by kernel_rfl
theorem enter_toldI (args:Array Value) (w:World):(callFunc 17 args).run Try.prog w=.ok (.enter 17 args) w:=by kernel_rfl
theorem enter_chkP (args:Array Value) (w:World):(callFunc 9 args).run Try.prog w=.ok (.enter 9 args) w:=by kernel_rfl
theorem enter_chkR (args:Array Value) (w:World):(callFunc 18 args).run Try.prog w=.ok (.enter 18 args) w:=by kernel_rfl
theorem enter_headsI (args:Array Value) (w:World):(callFunc 11 args).run Try.prog w=.ok (.enter 11 args) w:=by kernel_rfl
def ins5O0 (ps:String):Oper:=⟨some 34,.load 27 (.tmp 5),27,ps,#[],none⟩
def ins5O1 (ps:String):Oper:=⟨some 35,.load 27 (.tmp 9),27,ps,#[],none⟩
def ins5O2 (ps:String):Oper:=⟨some 36,.call { callee:=.value (.func 16),args:=#[.tmp 34,.tmp 35],argTypes:=#[27,27]},4,ps,#[⟨0,.data⟩,⟨1,.data⟩],none⟩
def ins5O3 (ps:String):Oper:=⟨some 37,.move (.tmp 36),4,ps,#[⟨2,.data⟩,⟨2,.chain⟩],none⟩
def ins5O4 (ps:String):Oper:=⟨some 38,.load 34 (.tmp 6),34,ps,#[⟨3,.guard⟩],some (3,true)⟩
def ins5O5 (ps:String):Oper:=⟨some 39,.load 34 (.tmp 10),34,ps,#[⟨3,.guard⟩],some (3,true)⟩
def ins5O6 (ps:String):Oper:=⟨some 40,.call { callee:=.value (.func 17),args:=#[.tmp 38,.tmp 39],argTypes:=#[34,34]},4,ps,#[⟨4,.data⟩,⟨5,.data⟩,⟨3,.chain⟩,⟨3,.guard⟩],some (3,true)⟩
def ins5O7 (ps:String):Oper:=⟨some 41,.pick (.tmp 37) (.tmp 40) (.const (.bool false)),4,ps,#[⟨3,.data⟩,⟨6,.data⟩],none⟩
def ins5O8 (ps:String):Oper:=⟨some 42,.move (.tmp 41),4,ps,#[⟨7,.data⟩,⟨6,.chain⟩],none⟩
def ins5O9 (ps:String):Oper:=⟨some 43,.move (.tmp 7),4,ps,#[⟨8,.guard⟩],some (8,true)⟩
def ins5O10 (ps:String):Oper:=⟨some 44,.move (.tmp 11),4,ps,#[⟨8,.guard⟩],some (8,true)⟩
def ins5O11 (ps:String):Oper:=⟨some 45,.binOp .eql 4 (.tmp 43) (.tmp 44) 4,4,ps,#[⟨9,.data⟩,⟨10,.data⟩,⟨8,.guard⟩],some (8,true)⟩
def ins5O12 (ps:String):Oper:=⟨some 46,.pick (.tmp 42) (.tmp 45) (.const (.bool false)),4,ps,#[⟨8,.data⟩,⟨11,.data⟩],none⟩
def ins5O13 (ps:String):Oper:=⟨some 47,.move (.tmp 46),4,ps,#[⟨12,.data⟩,⟨8,.chain⟩],none⟩
def ins5O14 (ps:String):Oper:=⟨some 48,.move (.tmp 8),28,ps,#[⟨13,.guard⟩],some (13,true)⟩
def ins5O15 (ps:String):Oper:=⟨some 49,.move (.tmp 12),3,ps,#[⟨13,.guard⟩],some (13,true)⟩
def ins5O16 (ps:String):Oper:=⟨some 50,.binOp .eql 3 (.tmp 48) (.tmp 49) 3,4,ps,#[⟨14,.data⟩,⟨15,.data⟩,⟨13,.guard⟩],some (13,true)⟩
def ins5O17 (ps:String):Oper:=⟨some 51,.pick (.tmp 47) (.tmp 50) (.const (.bool false)),4,ps,#[⟨13,.data⟩,⟨16,.data⟩],none⟩
def ins5O18 (ps:String):Oper:=⟨some 52,.move (.tmp 51),4,ps,#[⟨17,.data⟩,⟨13,.chain⟩],none⟩
def ins5O19 (ps:String):Oper:=⟨some 53,.load 27 (.tmp 2),27,ps,#[⟨18,.guard⟩],some (18,true)⟩
def ins5O20 (ps:String):Oper:=⟨some 54,.call { callee:=.value (.func 9),args:=#[.tmp 53],argTypes:=#[27]},28,ps,#[⟨19,.data⟩,⟨18,.chain⟩,⟨18,.guard⟩],some (18,true)⟩
def ins5O21 (ps:String):Oper:=⟨some 55,.load 27 (.tmp 2),27,ps,#[⟨18,.guard⟩],some (18,true)⟩
def ins5O22 (ps:String):Oper:=⟨some 56,.call { callee:=.value (.func 18),args:=#[.tmp 55],argTypes:=#[27]},3,ps,#[⟨21,.data⟩,⟨20,.chain⟩,⟨18,.guard⟩],some (18,true)⟩
def ins5O23 (ps:String):Oper:=⟨some 57,.binOp .eql 3 (.tmp 54) (.tmp 56) 3,4,ps,#[⟨20,.data⟩,⟨22,.data⟩,⟨18,.guard⟩],some (18,true)⟩
def ins5O24 (ps:String):Oper:=⟨some 58,.pick (.tmp 52) (.tmp 57) (.const (.bool false)),4,ps,#[⟨18,.data⟩,⟨23,.data⟩],none⟩
def ins5O25 (ps:String):Oper:=⟨some 59,.move (.tmp 58),4,ps,#[⟨24,.data⟩,⟨22,.chain⟩],none⟩
def ins5O26 (ps:String):Oper:=⟨some 60,.call { callee:=.value (.func 11),args:=#[],argTypes:=#[]},4,ps,#[⟨25,.chain⟩,⟨25,.guard⟩],some (25,true)⟩
def ins5O27 (ps:String):Oper:=⟨some 61,.pick (.tmp 59) (.tmp 60) (.const (.bool false)),4,ps,#[⟨25,.data⟩,⟨26,.data⟩],none⟩
def ins5O28 (ps:String):Oper:=⟨some 4,.assign (.tmp 61),4,ps,#[⟨27,.data⟩,⟨26,.chain⟩,⟨0,.phase⟩,⟨1,.phase⟩,⟨2,.phase⟩,⟨3,.phase⟩,⟨4,.phase⟩,⟨5,.phase⟩,⟨6,.phase⟩,⟨7,.phase⟩,⟨8,.phase⟩,⟨9,.phase⟩,⟨10,.phase⟩,⟨11,.phase⟩,⟨12,.phase⟩,⟨13,.phase⟩,⟨14,.phase⟩,⟨15,.phase⟩,⟨16,.phase⟩,⟨17,.phase⟩,⟨18,.phase⟩,⟨19,.phase⟩,⟨20,.phase⟩,⟨21,.phase⟩,⟨22,.phase⟩,⟨23,.phase⟩,⟨24,.phase⟩,⟨25,.phase⟩,⟨26,.phase⟩,⟨27,.phase⟩],none⟩
def ins5 (ps:String):Array Oper:=#[ins5O0 ps,ins5O1 ps,ins5O2 ps,ins5O3 ps,ins5O4 ps,ins5O5 ps,ins5O6 ps,ins5O7 ps,ins5O8 ps,ins5O9 ps,ins5O10 ps,ins5O11 ps,ins5O12 ps,ins5O13 ps,ins5O14 ps,ins5O15 ps,ins5O16 ps,ins5O17 ps,ins5O18 ps,ins5O19 ps,ins5O20 ps,ins5O21 ps,ins5O22 ps,ins5O23 ps,ins5O24 ps,ins5O25 ps,ins5O26 ps,ins5O27 ps,ins5O28 ps]
theorem ins5_0 (ps:String):(ins5 ps)[0]? = some (ins5O0 ps):=rfl
theorem ins5_1 (ps:String):(ins5 ps)[1]? = some (ins5O1 ps):=rfl
theorem ins5_2 (ps:String):(ins5 ps)[2]? = some (ins5O2 ps):=rfl
theorem ze2 (ps:String):(ins5 ps)[3]? = some (ins5O3 ps):=rfl
theorem ins5_4 (ps:String):(ins5 ps)[4]? = some (ins5O4 ps):=rfl
theorem ins5_5 (ps:String):(ins5 ps)[5]? = some (ins5O5 ps):=rfl
theorem ins5_6 (ps:String):(ins5 ps)[6]? = some (ins5O6 ps):=rfl
theorem ins5_7 (ps:String):(ins5 ps)[7]? = some (ins5O7 ps):=rfl
theorem ze1 (ps:String):(ins5 ps)[8]? = some (ins5O8 ps):=rfl
theorem ins5_9 (ps:String):(ins5 ps)[9]? = some (ins5O9 ps):=rfl
theorem ins5_10 (ps:String):(ins5 ps)[10]? = some (ins5O10 ps):=rfl
theorem ins5_11 (ps:String):(ins5 ps)[11]? = some (ins5O11 ps):=rfl
theorem ins5_12 (ps:String):(ins5 ps)[12]? = some (ins5O12 ps):=rfl
theorem zdb (ps:String):(ins5 ps)[13]? = some (ins5O13 ps):=rfl
theorem ins5_14 (ps:String):(ins5 ps)[14]? = some (ins5O14 ps):=rfl
theorem ins5_15 (ps:String):(ins5 ps)[15]? = some (ins5O15 ps):=rfl
theorem ins5_16 (ps:String):(ins5 ps)[16]? = some (ins5O16 ps):=rfl
theorem ins5_17 (ps:String):(ins5 ps)[17]? = some (ins5O17 ps):=rfl
theorem zb7 (ps:String):(ins5 ps)[18]? = some (ins5O18 ps):=rfl
theorem ins5_19 (ps:String):(ins5 ps)[19]? = some (ins5O19 ps):=rfl
theorem ins5_20 (ps:String):(ins5 ps)[20]? = some (ins5O20 ps):=rfl
theorem ins5_21 (ps:String):(ins5 ps)[21]? = some (ins5O21 ps):=rfl
theorem ins5_22 (ps:String):(ins5 ps)[22]? = some (ins5O22 ps):=rfl
theorem ins5_23 (ps:String):(ins5 ps)[23]? = some (ins5O23 ps):=rfl
theorem ins5_24 (ps:String):(ins5 ps)[24]? = some (ins5O24 ps):=rfl
theorem zg7 (ps:String):(ins5 ps)[25]? = some (ins5O25 ps):=rfl
theorem ins5_26 (ps:String):(ins5 ps)[26]? = some (ins5O26 ps):=rfl
theorem ins5_27 (ps:String):(ins5 ps)[27]? = some (ins5O27 ps):=rfl
theorem ins5_28 (ps:String):(ins5 ps)[28]? = some (ins5O28 ps):=rfl
def ins5D:Nat→Option Tmp
 | 0=>some 34
 | 1=>some 35
 | 2=>some 36
 | 3=>some 37
 | 4=>some 38
 | 5=>some 39
 | 6=>some 40
 | 7=>some 41
 | 8=>some 42
 | 9=>some 43
 | 10=>some 44
 | 11=>some 45
 | 12=>some 46
 | 13=>some 47
 | 14=>some 48
 | 15=>some 49
 | 16=>some 50
 | 17=>some 51
 | 18=>some 52
 | 19=>some 53
 | 20=>some 54
 | 21=>some 55
 | 22=>some 56
 | 23=>some 57
 | 24=>some 58
 | 25=>some 59
 | 26=>some 60
 | 27=>some 61
 | 28=>some 4
 | _=>none
def ins5T (r R1:Pl.Rv) (h ka kb:Hd) (T1:Seg) (sa sb:Hs) (g p1 p2 q1 q2:Nat) (q:Bool) (e1 ec:Int)  : Nat→Value
 | 0=>.agg #[.int .i64 R1.s.n,.slice ka.ua R1.s.u.length ka.uc,.slice ka.la ka.es.length ka.lc,.int .i64 R1.cap,.int .i64 R1.shift,.int .i64 R1.edge,.int .u32 R1.recent,.bool R1.stamps,.bool R1.sacks,.int .i64 R1.fin,.bool R1.dn,.slice ka.fa R1.first.length ka.fc,.int .u32 R1.irs,.int .u32 R1.own,.bool R1.stamp]
 | 1=>.agg #[.int .i64 R1.s.n,.slice kb.ua R1.s.u.length kb.uc,.slice kb.la kb.es.length kb.lc,.int .i64 R1.cap,.int .i64 R1.shift,.int .i64 R1.edge,.int .u32 R1.recent,.bool R1.stamps,.bool R1.sacks,.int .i64 R1.fin,.bool R1.dn,.slice kb.fa R1.first.length kb.fc,.int .u32 R1.irs,.int .u32 R1.own,.bool R1.stamp]
 | 2=>.bool true
 | 3=>.bool true
 | 4=>cond (true) (.agg #[.int .i64 T1.sp,.int .i64 T1.dp,.int .u32 T1.sq,.int .u32 T1.ak,.int .i64 T1.fl,.int .i64 T1.wn,.int .i64 T1.ur,.int .i64 T1.ms,.int .i64 T1.sc,.bool T1.so,.bool T1.st,.int .u32 T1.va,.int .u32 T1.ec,.slice sa.ka T1.sk.length sa.kc,.slice sa.da T1.da.length sa.dc]) undef
 | 5=>cond (true) (.agg #[.int .i64 T1.sp,.int .i64 T1.dp,.int .u32 T1.sq,.int .u32 T1.ak,.int .i64 T1.fl,.int .i64 T1.wn,.int .i64 T1.ur,.int .i64 T1.ms,.int .i64 T1.sc,.bool T1.so,.bool T1.st,.int .u32 T1.va,.int .u32 T1.ec,.slice sb.ka T1.sk.length sb.kc,.slice sb.da T1.da.length sb.dc]) undef
 | 6=>cond (true) (.bool true) undef
 | 7=>.bool true
 | 8=>.bool true
 | 9=>cond (true) (.bool q) undef
 | 10=>cond (true) (.bool q) undef
 | 11=>cond (true) (.bool true) undef
 | 12=>.bool true
 | 13=>.bool true
 | 14=>cond (true) (.int .i64 e1) undef
 | 15=>cond (true) (.int .i64 e1) undef
 | 16=>cond (true) (.bool true) undef
 | 17=>.bool true
 | 18=>.bool true
 | 19=>cond (true) (.agg #[.int .i64 r.s.n,.slice h.ua r.s.u.length h.uc,.slice h.la h.es.length h.lc,.int .i64 r.cap,.int .i64 r.shift,.int .i64 r.edge,.int .u32 r.recent,.bool r.stamps,.bool r.sacks,.int .i64 r.fin,.bool r.dn,.slice h.fa r.first.length h.fc,.int .u32 r.irs,.int .u32 r.own,.bool r.stamp]) undef
 | 20=>cond (true) (.int .i64 ec) undef
 | 21=>cond (true) (.agg #[.int .i64 r.s.n,.slice h.ua r.s.u.length h.uc,.slice h.la h.es.length h.lc,.int .i64 r.cap,.int .i64 r.shift,.int .i64 r.edge,.int .u32 r.recent,.bool r.stamps,.bool r.sacks,.int .i64 r.fin,.bool r.dn,.slice h.fa r.first.length h.fc,.int .u32 r.irs,.int .u32 r.own,.bool r.stamp]) undef
 | 22=>cond (true) (.int .i64 ec) undef
 | 23=>cond (true) (.bool true) undef
 | 24=>.bool true
 | 25=>.bool true
 | 26=>cond (true) (.bool true) undef
 | 27=>.bool true
 | 28=>.bool true
 | _=>undef
set_option maxRecDepth 100000 in
set_option maxHeartbeats 4000000 in
theorem ins5_reg {ps:String} {Q:Exit→Act→World→Prop} {a0:Act} {W0:World} (sz:a0.tmps.size=62) (r R1:Pl.Rv) (h ka kb:Hd) (T1:Seg) (sa sb:Hs) (g p1 p2 q1 q2:Nat) (q:Bool) (e1 ec:Int)
 (e2:a0.eval (.tmp 2)=.pointer (some ⟨g,0,none⟩)) (e5:a0.eval (.tmp 5)=.pointer (some ⟨p1,0,none⟩)) (e6:a0.eval (.tmp 6)=.pointer (some ⟨q1,0,none⟩)) (e7:a0.eval (.tmp 7)=.bool q) (e8:a0.eval (.tmp 8)=.int .i64 e1) (e9:a0.eval (.tmp 9)=.pointer (some ⟨p2,0,none⟩)) (e10:a0.eval (.tmp 10)=.pointer (some ⟨q2,0,none⟩)) (e11:a0.eval (.tmp 11)=.bool q) (e12:a0.eval (.tmp 12)=.int .i64 e1)
 {X4:World} (c1:∀ W,Below X4.heap.size X4 W→Calls Try.prog 16 #[.agg #[.int .i64 R1.s.n,.slice ka.ua R1.s.u.length ka.uc,.slice ka.la ka.es.length ka.lc,.int .i64 R1.cap,.int .i64 R1.shift,.int .i64 R1.edge,.int .u32 R1.recent,.bool R1.stamps,.bool R1.sacks,.int .i64 R1.fin,.bool R1.dn,.slice ka.fa R1.first.length ka.fc,.int .u32 R1.irs,.int .u32 R1.own,.bool R1.stamp],.agg #[.int .i64 R1.s.n,.slice kb.ua R1.s.u.length kb.uc,.slice kb.la kb.es.length kb.lc,.int .i64 R1.cap,.int .i64 R1.shift,.int .i64 R1.edge,.int .u32 R1.recent,.bool R1.stamps,.bool R1.sacks,.int .i64 R1.fin,.bool R1.dn,.slice kb.fa R1.first.length kb.fc,.int .u32 R1.irs,.int .u32 R1.own,.bool R1.stamp]] W fun e w'=>e=.returned (.bool true)∧Below W.heap.size W w') (c2:∀ W,Below X4.heap.size X4 W→Calls Try.prog 17 #[.agg #[.int .i64 T1.sp,.int .i64 T1.dp,.int .u32 T1.sq,.int .u32 T1.ak,.int .i64 T1.fl,.int .i64 T1.wn,.int .i64 T1.ur,.int .i64 T1.ms,.int .i64 T1.sc,.bool T1.so,.bool T1.st,.int .u32 T1.va,.int .u32 T1.ec,.slice sa.ka T1.sk.length sa.kc,.slice sa.da T1.da.length sa.dc],.agg #[.int .i64 T1.sp,.int .i64 T1.dp,.int .u32 T1.sq,.int .u32 T1.ak,.int .i64 T1.fl,.int .i64 T1.wn,.int .i64 T1.ur,.int .i64 T1.ms,.int .i64 T1.sc,.bool T1.so,.bool T1.st,.int .u32 T1.va,.int .u32 T1.ec,.slice sb.ka T1.sk.length sb.kc,.slice sb.da T1.da.length sb.dc]] W fun e w'=>e=.returned (.bool true)∧Below W.heap.size W w') (c3:∀ W,Below X4.heap.size X4 W→Calls Try.prog 9 #[.agg #[.int .i64 r.s.n,.slice h.ua r.s.u.length h.uc,.slice h.la h.es.length h.lc,.int .i64 r.cap,.int .i64 r.shift,.int .i64 r.edge,.int .u32 r.recent,.bool r.stamps,.bool r.sacks,.int .i64 r.fin,.bool r.dn,.slice h.fa r.first.length h.fc,.int .u32 r.irs,.int .u32 r.own,.bool r.stamp]] W fun e w'=>e=.returned (.int .i64 ec)∧Below W.heap.size W w') (c4:∀ W,Below X4.heap.size X4 W→Calls Try.prog 18 #[.agg #[.int .i64 r.s.n,.slice h.ua r.s.u.length h.uc,.slice h.la h.es.length h.lc,.int .i64 r.cap,.int .i64 r.shift,.int .i64 r.edge,.int .u32 r.recent,.bool r.stamps,.bool r.sacks,.int .i64 r.fin,.bool r.dn,.slice h.fa r.first.length h.fc,.int .u32 r.irs,.int .u32 r.own,.bool r.stamp]] W fun e w'=>e=.returned (.int .i64 ec)∧Below W.heap.size W w') (c5:∀ W,Below X4.heap.size X4 W→Calls Try.prog 11 #[] W fun e w'=>e=.returned (.bool true)∧Below W.heap.size W w') (hS:(fun w=>Box w g 27 (rvL r h)∧Box w p1 27 (rvL R1 ka)∧Box w p2 27 (rvL R1 kb)∧Box w q1 34 [.int .i64 T1.sp,.int .i64 T1.dp,.int .u32 T1.sq,.int .u32 T1.ak,.int .i64 T1.fl,.int .i64 T1.wn,.int .i64 T1.ur,.int .i64 T1.ms,.int .i64 T1.sc,.bool T1.so,.bool T1.st,.int .u32 T1.va,.int .u32 T1.ec,.slice sa.ka T1.sk.length sa.kc,.slice sa.da T1.da.length sa.dc]∧Box w q2 34 [.int .i64 T1.sp,.int .i64 T1.dp,.int .u32 T1.sq,.int .u32 T1.ak,.int .i64 T1.fl,.int .i64 T1.wn,.int .i64 T1.ur,.int .i64 T1.ms,.int .i64 T1.sc,.bool T1.so,.bool T1.st,.int .u32 T1.va,.int .u32 T1.ec,.slice sb.ka T1.sk.length sb.kc,.slice sb.da T1.da.length sb.dc]∧Below X4.heap.size X4 w) W0.drew)
 (hfin:∀ (T:Nat→Value) w,T 28=.bool true→(fun w=>Box w g 27 (rvL r h)∧Box w p1 27 (rvL R1 ka)∧Box w p2 27 (rvL R1 kb)∧Box w q1 34 [.int .i64 T1.sp,.int .i64 T1.dp,.int .u32 T1.sq,.int .u32 T1.ak,.int .i64 T1.fl,.int .i64 T1.wn,.int .i64 T1.ur,.int .i64 T1.ms,.int .i64 T1.sc,.bool T1.so,.bool T1.st,.int .u32 T1.va,.int .u32 T1.ec,.slice sa.ka T1.sk.length sa.kc,.slice sa.da T1.da.length sa.dc]∧Box w q2 34 [.int .i64 T1.sp,.int .i64 T1.dp,.int .u32 T1.sq,.int .u32 T1.ak,.int .i64 T1.fl,.int .i64 T1.wn,.int .i64 T1.ur,.int .i64 T1.ms,.int .i64 T1.sc,.bool T1.so,.bool T1.st,.int .u32 T1.va,.int .u32 T1.ec,.slice sb.ka T1.sk.length sb.kc,.slice sb.da T1.da.length sb.dc]∧Below X4.heap.size X4 w) w→Q .normal (((((((((((((((((((((((((((((a0.put (some 34) (T 0)).put (some 35) (T 1)).put (some 36) (T 2)).put (some 37) (T 3)).put (some 38) (T 4)).put (some 39) (T 5)).put (some 40) (T 6)).put (some 41) (T 7)).put (some 42) (T 8)).put (some 43) (T 9)).put (some 44) (T 10)).put (some 45) (T 11)).put (some 46) (T 12)).put (some 47) (T 13)).put (some 48) (T 14)).put (some 49) (T 15)).put (some 50) (T 16)).put (some 51) (T 17)).put (some 52) (T 18)).put (some 53) (T 19)).put (some 54) (T 20)).put (some 55) (T 21)).put (some 56) (T 22)).put (some 57) (T 23)).put (some 58) (T 24)).put (some 59) (T 25)).put (some 60) (T 26)).put (some 61) (T 27)).put (some 4) (T 28)) w) :
 (Code.region 5 (ins5 ps) true).wp Try.prog Q a0 W0:=by
 refine zby (by kernel_rfl) 29 rfl ins5D ?_ (by decide) (ins5T r R1 h ka kb T1 sa sb g p1 p2 q1 q2 q e1 ec) (fun w=>Box w g 27 (rvL r h)∧Box w p1 27 (rvL R1 ka)∧Box w p2 27 (rvL R1 kb)∧Box w q1 34 [.int .i64 T1.sp,.int .i64 T1.dp,.int .u32 T1.sq,.int .u32 T1.ak,.int .i64 T1.fl,.int .i64 T1.wn,.int .i64 T1.ur,.int .i64 T1.ms,.int .i64 T1.sc,.bool T1.so,.bool T1.st,.int .u32 T1.va,.int .u32 T1.ec,.slice sa.ka T1.sk.length sa.kc,.slice sa.da T1.da.length sa.dc]∧Box w q2 34 [.int .i64 T1.sp,.int .i64 T1.dp,.int .u32 T1.sq,.int .u32 T1.ak,.int .i64 T1.fl,.int .i64 T1.wn,.int .i64 T1.ur,.int .i64 T1.ms,.int .i64 T1.sc,.bool T1.so,.bool T1.st,.int .u32 T1.va,.int .u32 T1.ec,.slice sb.ka T1.sk.length sb.kc,.slice sb.da T1.da.length sb.dc]∧Below X4.heap.size X4 w) hS ?_ (by rfl) (fun w hSw=>hfin (ins5T r R1 h ka kb T1 sa sb g p1 p2 q1 q2 q e1 ec) w rfl hSw)
 · intro jq t hj ht
   have:∀ j,j<29→(ins5D j).all (· < 62)=true:=by decide
   have:=this jq hj
   rw [ht] at this
   rw [sz]
   simpa using this
 · intro iq o ho a w hSw hs hel K hK
   have hin:iq<29:=(Array.getElem?_eq_some_iff.1 ho).1
   match iq,hin,ho with
   | 0,_,ho =>
    as_aux_lemma =>
     obtain rfl:=Option.some.inj (ho.symm.trans (ins5_0 ps))
     have u5:a.eval (.tmp 5)=.pointer (some ⟨p1,0,none⟩):=(hel 5 (by decide)).trans e5
     have hcl:=Box.c15 hSw.2.1
     skip
     exact zal (ins5_0 ps) rfl (by unfold ins5O0 execOp;simp only [u5,ins5T,cond_true,cond_false,Bool.not_true,Bool.not_false,Bool.and_true,Bool.true_and,Bool.and_false,Bool.false_and];first|(go_simp;done)|(go_simp;with_reducible rfl)) (hK w hSw)
   | 1,_,ho =>
    as_aux_lemma =>
     obtain rfl:=Option.some.inj (ho.symm.trans (ins5_1 ps))
     have u9:a.eval (.tmp 9)=.pointer (some ⟨p2,0,none⟩):=(hel 9 (by decide)).trans e9
     have hcl:=Box.c15 hSw.2.2.1
     skip
     exact zal (ins5_1 ps) rfl (by unfold ins5O1 execOp;simp only [u9,ins5T,cond_true,cond_false,Bool.not_true,Bool.not_false,Bool.and_true,Bool.true_and,Bool.and_false,Bool.false_and];first|(go_simp;done)|(go_simp;with_reducible rfl)) (hK w hSw)
   | 2,_,ho =>
    as_aux_lemma =>
     obtain rfl:=Option.some.inj (ho.symm.trans (ins5_2 ps))
     have s0:=hs 0 34 (by rfl) rfl
     have s1:=hs 1 35 (by rfl) rfl
     (try simp only [ins5T,cond_true,cond_false,Bool.not_true,Bool.not_false,Bool.and_true,Bool.true_and,Bool.and_false,Bool.false_and] at s0 s1)
     exact zbr (ins5_2 ps) rfl (f:=16) (args:=#[.agg #[.int .i64 R1.s.n,.slice ka.ua R1.s.u.length ka.uc,.slice ka.la ka.es.length ka.lc,.int .i64 R1.cap,.int .i64 R1.shift,.int .i64 R1.edge,.int .u32 R1.recent,.bool R1.stamps,.bool R1.sacks,.int .i64 R1.fin,.bool R1.dn,.slice ka.fa R1.first.length ka.fc,.int .u32 R1.irs,.int .u32 R1.own,.bool R1.stamp],.agg #[.int .i64 R1.s.n,.slice kb.ua R1.s.u.length kb.uc,.slice kb.la kb.es.length kb.lc,.int .i64 R1.cap,.int .i64 R1.shift,.int .i64 R1.edge,.int .u32 R1.recent,.bool R1.stamps,.bool R1.sacks,.int .i64 R1.fin,.bool R1.dn,.slice kb.fa R1.first.length kb.fc,.int .u32 R1.irs,.int .u32 R1.own,.bool R1.stamp]]) (by rw [zbz rfl enter_sameI];simp only [List.map_toArray,List.map_cons,List.map_nil,s0,s1];try rfl) ((c1 w hSw.2.2.2.2.2).mono (fun e w' hh=>⟨_,hh.1,hK w' ⟨hSw.1.later hh.2,hSw.2.1.later hh.2,hSw.2.2.1.later hh.2,hSw.2.2.2.1.later hh.2,hSw.2.2.2.2.1.later hh.2,Below.on hSw.2.2.2.2.2 hh.2⟩⟩))
   | 3,_,ho =>
    as_aux_lemma =>
     obtain rfl:=Option.some.inj (ho.symm.trans (ze2 ps))
     have s2:=hs 2 36 (by rfl) rfl
     (try simp only [ins5T,cond_true,cond_false,Bool.not_true,Bool.not_false,Bool.and_true,Bool.true_and,Bool.and_false,Bool.false_and] at s2)
     exact zal (ze2 ps) rfl (by unfold ins5O3 execOp;simp only [s2,ins5T,cond_true,cond_false,Bool.not_true,Bool.not_false,Bool.and_true,Bool.true_and,Bool.and_false,Bool.false_and];first|(go_simp;done)|(go_simp;with_reducible rfl)) (hK w hSw)
   | 4,_,ho =>
    as_aux_lemma =>
     obtain rfl:=Option.some.inj (ho.symm.trans (ins5_4 ps))
     have s3:=hs 3 37 (by rfl) rfl
     have u6:a.eval (.tmp 6)=.pointer (some ⟨q1,0,none⟩):=(hel 6 (by decide)).trans e6
     have hcl:=Box.c15 hSw.2.2.2.1
     (try simp only [ins5T,cond_true,cond_false,Bool.not_true,Bool.not_false,Bool.and_true,Bool.true_and,Bool.and_false,Bool.false_and] at s3)
     first|(exact zat (ins5_4 ps) (by rw [zae rfl (ze2 ps) rfl s3];rfl) (hK w hSw))|(exact zal (ins5_4 ps) (by rw [zae rfl (ze2 ps) rfl s3];rfl) (by unfold ins5O4 execOp;simp only [u6,ins5T,cond_true,cond_false,Bool.not_true,Bool.not_false,Bool.and_true,Bool.true_and,Bool.and_false,Bool.false_and];first|(go_simp;done)|(go_simp;with_reducible rfl)) (hK w hSw))
   | 5,_,ho =>
    as_aux_lemma =>
     obtain rfl:=Option.some.inj (ho.symm.trans (ins5_5 ps))
     have s3:=hs 3 37 (by rfl) rfl
     have u10:a.eval (.tmp 10)=.pointer (some ⟨q2,0,none⟩):=(hel 10 (by decide)).trans e10
     have hcl:=Box.c15 hSw.2.2.2.2.1
     (try simp only [ins5T,cond_true,cond_false,Bool.not_true,Bool.not_false,Bool.and_true,Bool.true_and,Bool.and_false,Bool.false_and] at s3)
     first|(exact zat (ins5_5 ps) (by rw [zae rfl (ze2 ps) rfl s3];rfl) (hK w hSw))|(exact zal (ins5_5 ps) (by rw [zae rfl (ze2 ps) rfl s3];rfl) (by unfold ins5O5 execOp;simp only [u10,ins5T,cond_true,cond_false,Bool.not_true,Bool.not_false,Bool.and_true,Bool.true_and,Bool.and_false,Bool.false_and];first|(go_simp;done)|(go_simp;with_reducible rfl)) (hK w hSw))
   | 6,_,ho =>
    as_aux_lemma =>
     obtain rfl:=Option.some.inj (ho.symm.trans (ins5_6 ps))
     have s4:=hs 4 38 (by rfl) rfl
     have s5:=hs 5 39 (by rfl) rfl
     have s3:=hs 3 37 (by rfl) rfl
     (try simp only [ins5T,cond_true,cond_false,Bool.not_true,Bool.not_false,Bool.and_true,Bool.true_and,Bool.and_false,Bool.false_and] at s4 s5 s3)
     first|(exact zat (ins5_6 ps) (by rw [zae rfl (ze2 ps) rfl s3];rfl) (hK w hSw))|(exact zbr (ins5_6 ps) (by rw [zae rfl (ze2 ps) rfl s3];rfl) (f:=17) (args:=#[.agg #[.int .i64 T1.sp,.int .i64 T1.dp,.int .u32 T1.sq,.int .u32 T1.ak,.int .i64 T1.fl,.int .i64 T1.wn,.int .i64 T1.ur,.int .i64 T1.ms,.int .i64 T1.sc,.bool T1.so,.bool T1.st,.int .u32 T1.va,.int .u32 T1.ec,.slice sa.ka T1.sk.length sa.kc,.slice sa.da T1.da.length sa.dc],.agg #[.int .i64 T1.sp,.int .i64 T1.dp,.int .u32 T1.sq,.int .u32 T1.ak,.int .i64 T1.fl,.int .i64 T1.wn,.int .i64 T1.ur,.int .i64 T1.ms,.int .i64 T1.sc,.bool T1.so,.bool T1.st,.int .u32 T1.va,.int .u32 T1.ec,.slice sb.ka T1.sk.length sb.kc,.slice sb.da T1.da.length sb.dc]]) (by rw [zbz rfl enter_toldI];simp only [List.map_toArray,List.map_cons,List.map_nil,s4,s5];try rfl) ((c2 w hSw.2.2.2.2.2).mono (fun e w' hh=>⟨_,hh.1,hK w' ⟨hSw.1.later hh.2,hSw.2.1.later hh.2,hSw.2.2.1.later hh.2,hSw.2.2.2.1.later hh.2,hSw.2.2.2.2.1.later hh.2,Below.on hSw.2.2.2.2.2 hh.2⟩⟩)))
   | 7,_,ho =>
    as_aux_lemma =>
     obtain rfl:=Option.some.inj (ho.symm.trans (ins5_7 ps))
     have s3:=hs 3 37 (by rfl) rfl
     have s6:=hs 6 40 (by rfl) rfl
     (try simp only [ins5T,cond_true,cond_false,Bool.not_true,Bool.not_false,Bool.and_true,Bool.true_and,Bool.and_false,Bool.false_and] at s3 s6)
     exact zal (ins5_7 ps) rfl (by unfold ins5O7 execOp;simp only [s3,s6,ins5T,cond_true,cond_false,Bool.not_true,Bool.not_false,Bool.and_true,Bool.true_and,Bool.and_false,Bool.false_and];first|(go_simp;done)|(go_simp;with_reducible rfl)) (hK w hSw)
   | 8,_,ho =>
    as_aux_lemma =>
     obtain rfl:=Option.some.inj (ho.symm.trans (ze1 ps))
     have s7:=hs 7 41 (by rfl) rfl
     (try simp only [ins5T,cond_true,cond_false,Bool.not_true,Bool.not_false,Bool.and_true,Bool.true_and,Bool.and_false,Bool.false_and] at s7)
     exact zal (ze1 ps) rfl (by unfold ins5O8 execOp;simp only [s7,ins5T,cond_true,cond_false,Bool.not_true,Bool.not_false,Bool.and_true,Bool.true_and,Bool.and_false,Bool.false_and];first|(go_simp;done)|(go_simp;with_reducible rfl)) (hK w hSw)
   | 9,_,ho =>
    as_aux_lemma =>
     obtain rfl:=Option.some.inj (ho.symm.trans (ins5_9 ps))
     have s8:=hs 8 42 (by rfl) rfl
     have u7:a.eval (.tmp 7)=.bool q:=(hel 7 (by decide)).trans e7
     (try simp only [ins5T,cond_true,cond_false,Bool.not_true,Bool.not_false,Bool.and_true,Bool.true_and,Bool.and_false,Bool.false_and] at s8)
     first|(exact zat (ins5_9 ps) (by rw [zae rfl (ze1 ps) rfl s8];rfl) (hK w hSw))|(exact zal (ins5_9 ps) (by rw [zae rfl (ze1 ps) rfl s8];rfl) (by unfold ins5O9 execOp;simp only [u7,ins5T,cond_true,cond_false,Bool.not_true,Bool.not_false,Bool.and_true,Bool.true_and,Bool.and_false,Bool.false_and];first|(go_simp;done)|(go_simp;with_reducible rfl)) (hK w hSw))
   | 10,_,ho =>
    as_aux_lemma =>
     obtain rfl:=Option.some.inj (ho.symm.trans (ins5_10 ps))
     have s8:=hs 8 42 (by rfl) rfl
     have u11:a.eval (.tmp 11)=.bool q:=(hel 11 (by decide)).trans e11
     (try simp only [ins5T,cond_true,cond_false,Bool.not_true,Bool.not_false,Bool.and_true,Bool.true_and,Bool.and_false,Bool.false_and] at s8)
     first|(exact zat (ins5_10 ps) (by rw [zae rfl (ze1 ps) rfl s8];rfl) (hK w hSw))|(exact zal (ins5_10 ps) (by rw [zae rfl (ze1 ps) rfl s8];rfl) (by unfold ins5O10 execOp;simp only [u11,ins5T,cond_true,cond_false,Bool.not_true,Bool.not_false,Bool.and_true,Bool.true_and,Bool.and_false,Bool.false_and];first|(go_simp;done)|(go_simp;with_reducible rfl)) (hK w hSw))
   | 11,_,ho =>
    as_aux_lemma =>
     obtain rfl:=Option.some.inj (ho.symm.trans (ins5_11 ps))
     have s9:=hs 9 43 (by rfl) rfl
     have s10:=hs 10 44 (by rfl) rfl
     have s8:=hs 8 42 (by rfl) rfl
     (try simp only [ins5T,cond_true,cond_false,Bool.not_true,Bool.not_false,Bool.and_true,Bool.true_and,Bool.and_false,Bool.false_and] at s9 s10 s8)
     first|(exact zat (ins5_11 ps) (by rw [zae rfl (ze1 ps) rfl s8];rfl) (hK w hSw))|(exact zal (ins5_11 ps) (by rw [zae rfl (ze1 ps) rfl s8];rfl) (by unfold ins5O11 execOp;simp only [s9,s10,ins5T,cond_true,cond_false,Bool.not_true,Bool.not_false,Bool.and_true,Bool.true_and,Bool.and_false,Bool.false_and];first|(go_simp;done)|(go_simp;with_reducible rfl)) (hK w hSw))
   | 12,_,ho =>
    as_aux_lemma =>
     obtain rfl:=Option.some.inj (ho.symm.trans (ins5_12 ps))
     have s8:=hs 8 42 (by rfl) rfl
     have s11:=hs 11 45 (by rfl) rfl
     (try simp only [ins5T,cond_true,cond_false,Bool.not_true,Bool.not_false,Bool.and_true,Bool.true_and,Bool.and_false,Bool.false_and] at s8 s11)
     exact zal (ins5_12 ps) rfl (by unfold ins5O12 execOp;simp only [s8,s11,ins5T,cond_true,cond_false,Bool.not_true,Bool.not_false,Bool.and_true,Bool.true_and,Bool.and_false,Bool.false_and];first|(go_simp;done)|(go_simp;with_reducible rfl)) (hK w hSw)
   | 13,_,ho =>
    as_aux_lemma =>
     obtain rfl:=Option.some.inj (ho.symm.trans (zdb ps))
     have s12:=hs 12 46 (by rfl) rfl
     (try simp only [ins5T,cond_true,cond_false,Bool.not_true,Bool.not_false,Bool.and_true,Bool.true_and,Bool.and_false,Bool.false_and] at s12)
     exact zal (zdb ps) rfl (by unfold ins5O13 execOp;simp only [s12,ins5T,cond_true,cond_false,Bool.not_true,Bool.not_false,Bool.and_true,Bool.true_and,Bool.and_false,Bool.false_and];first|(go_simp;done)|(go_simp;with_reducible rfl)) (hK w hSw)
   | 14,_,ho =>
    as_aux_lemma =>
     obtain rfl:=Option.some.inj (ho.symm.trans (ins5_14 ps))
     have s13:=hs 13 47 (by rfl) rfl
     have u8:a.eval (.tmp 8)=.int .i64 e1:=(hel 8 (by decide)).trans e8
     (try simp only [ins5T,cond_true,cond_false,Bool.not_true,Bool.not_false,Bool.and_true,Bool.true_and,Bool.and_false,Bool.false_and] at s13)
     first|(exact zat (ins5_14 ps) (by rw [zae rfl (zdb ps) rfl s13];rfl) (hK w hSw))|(exact zal (ins5_14 ps) (by rw [zae rfl (zdb ps) rfl s13];rfl) (by unfold ins5O14 execOp;simp only [u8,ins5T,cond_true,cond_false,Bool.not_true,Bool.not_false,Bool.and_true,Bool.true_and,Bool.and_false,Bool.false_and];first|(go_simp;done)|(go_simp;with_reducible rfl)) (hK w hSw))
   | 15,_,ho =>
    as_aux_lemma =>
     obtain rfl:=Option.some.inj (ho.symm.trans (ins5_15 ps))
     have s13:=hs 13 47 (by rfl) rfl
     have u12:a.eval (.tmp 12)=.int .i64 e1:=(hel 12 (by decide)).trans e12
     (try simp only [ins5T,cond_true,cond_false,Bool.not_true,Bool.not_false,Bool.and_true,Bool.true_and,Bool.and_false,Bool.false_and] at s13)
     first|(exact zat (ins5_15 ps) (by rw [zae rfl (zdb ps) rfl s13];rfl) (hK w hSw))|(exact zal (ins5_15 ps) (by rw [zae rfl (zdb ps) rfl s13];rfl) (by unfold ins5O15 execOp;simp only [u12,ins5T,cond_true,cond_false,Bool.not_true,Bool.not_false,Bool.and_true,Bool.true_and,Bool.and_false,Bool.false_and];first|(go_simp;done)|(go_simp;with_reducible rfl)) (hK w hSw))
   | 16,_,ho =>
    as_aux_lemma =>
     obtain rfl:=Option.some.inj (ho.symm.trans (ins5_16 ps))
     have s14:=hs 14 48 (by rfl) rfl
     have s15:=hs 15 49 (by rfl) rfl
     have s13:=hs 13 47 (by rfl) rfl
     (try simp only [ins5T,cond_true,cond_false,Bool.not_true,Bool.not_false,Bool.and_true,Bool.true_and,Bool.and_false,Bool.false_and] at s14 s15 s13)
     first|(exact zat (ins5_16 ps) (by rw [zae rfl (zdb ps) rfl s13];rfl) (hK w hSw))|(exact zal (ins5_16 ps) (by rw [zae rfl (zdb ps) rfl s13];rfl) (by unfold ins5O16 execOp;simp only [s14,s15,ins5T,cond_true,cond_false,Bool.not_true,Bool.not_false,Bool.and_true,Bool.true_and,Bool.and_false,Bool.false_and];first|(go_simp;done)|(go_simp;with_reducible rfl)) (hK w hSw))
   | 17,_,ho =>
    as_aux_lemma =>
     obtain rfl:=Option.some.inj (ho.symm.trans (ins5_17 ps))
     have s13:=hs 13 47 (by rfl) rfl
     have s16:=hs 16 50 (by rfl) rfl
     (try simp only [ins5T,cond_true,cond_false,Bool.not_true,Bool.not_false,Bool.and_true,Bool.true_and,Bool.and_false,Bool.false_and] at s13 s16)
     exact zal (ins5_17 ps) rfl (by unfold ins5O17 execOp;simp only [s13,s16,ins5T,cond_true,cond_false,Bool.not_true,Bool.not_false,Bool.and_true,Bool.true_and,Bool.and_false,Bool.false_and];first|(go_simp;done)|(go_simp;with_reducible rfl)) (hK w hSw)
   | 18,_,ho =>
    as_aux_lemma =>
     obtain rfl:=Option.some.inj (ho.symm.trans (zb7 ps))
     have s17:=hs 17 51 (by rfl) rfl
     (try simp only [ins5T,cond_true,cond_false,Bool.not_true,Bool.not_false,Bool.and_true,Bool.true_and,Bool.and_false,Bool.false_and] at s17)
     exact zal (zb7 ps) rfl (by unfold ins5O18 execOp;simp only [s17,ins5T,cond_true,cond_false,Bool.not_true,Bool.not_false,Bool.and_true,Bool.true_and,Bool.and_false,Bool.false_and];first|(go_simp;done)|(go_simp;with_reducible rfl)) (hK w hSw)
   | 19,_,ho =>
    as_aux_lemma =>
     obtain rfl:=Option.some.inj (ho.symm.trans (ins5_19 ps))
     have s18:=hs 18 52 (by rfl) rfl
     have u2:a.eval (.tmp 2)=.pointer (some ⟨g,0,none⟩):=(hel 2 (by decide)).trans e2
     have hcl:=Box.c15 hSw.1
     (try simp only [ins5T,cond_true,cond_false,Bool.not_true,Bool.not_false,Bool.and_true,Bool.true_and,Bool.and_false,Bool.false_and] at s18)
     first|(exact zat (ins5_19 ps) (by rw [zae rfl (zb7 ps) rfl s18];rfl) (hK w hSw))|(exact zal (ins5_19 ps) (by rw [zae rfl (zb7 ps) rfl s18];rfl) (by unfold ins5O19 execOp;simp only [u2,ins5T,cond_true,cond_false,Bool.not_true,Bool.not_false,Bool.and_true,Bool.true_and,Bool.and_false,Bool.false_and];first|(go_simp;done)|(go_simp;with_reducible rfl)) (hK w hSw))
   | 20,_,ho =>
    as_aux_lemma =>
     obtain rfl:=Option.some.inj (ho.symm.trans (ins5_20 ps))
     have s19:=hs 19 53 (by rfl) rfl
     have s18:=hs 18 52 (by rfl) rfl
     (try simp only [ins5T,cond_true,cond_false,Bool.not_true,Bool.not_false,Bool.and_true,Bool.true_and,Bool.and_false,Bool.false_and] at s19 s18)
     first|(exact zat (ins5_20 ps) (by rw [zae rfl (zb7 ps) rfl s18];rfl) (hK w hSw))|(exact zbr (ins5_20 ps) (by rw [zae rfl (zb7 ps) rfl s18];rfl) (f:=9) (args:=#[.agg #[.int .i64 r.s.n,.slice h.ua r.s.u.length h.uc,.slice h.la h.es.length h.lc,.int .i64 r.cap,.int .i64 r.shift,.int .i64 r.edge,.int .u32 r.recent,.bool r.stamps,.bool r.sacks,.int .i64 r.fin,.bool r.dn,.slice h.fa r.first.length h.fc,.int .u32 r.irs,.int .u32 r.own,.bool r.stamp]]) (by rw [zbz rfl enter_chkP];simp only [List.map_toArray,List.map_cons,List.map_nil,s19];try rfl) ((c3 w hSw.2.2.2.2.2).mono (fun e w' hh=>⟨_,hh.1,hK w' ⟨hSw.1.later hh.2,hSw.2.1.later hh.2,hSw.2.2.1.later hh.2,hSw.2.2.2.1.later hh.2,hSw.2.2.2.2.1.later hh.2,Below.on hSw.2.2.2.2.2 hh.2⟩⟩)))
   | 21,_,ho =>
    as_aux_lemma =>
     obtain rfl:=Option.some.inj (ho.symm.trans (ins5_21 ps))
     have s18:=hs 18 52 (by rfl) rfl
     have u2:a.eval (.tmp 2)=.pointer (some ⟨g,0,none⟩):=(hel 2 (by decide)).trans e2
     have hcl:=Box.c15 hSw.1
     (try simp only [ins5T,cond_true,cond_false,Bool.not_true,Bool.not_false,Bool.and_true,Bool.true_and,Bool.and_false,Bool.false_and] at s18)
     first|(exact zat (ins5_21 ps) (by rw [zae rfl (zb7 ps) rfl s18];rfl) (hK w hSw))|(exact zal (ins5_21 ps) (by rw [zae rfl (zb7 ps) rfl s18];rfl) (by unfold ins5O21 execOp;simp only [u2,ins5T,cond_true,cond_false,Bool.not_true,Bool.not_false,Bool.and_true,Bool.true_and,Bool.and_false,Bool.false_and];first|(go_simp;done)|(go_simp;with_reducible rfl)) (hK w hSw))
   | 22,_,ho =>
    as_aux_lemma =>
     obtain rfl:=Option.some.inj (ho.symm.trans (ins5_22 ps))
     have s21:=hs 21 55 (by rfl) rfl
     have s18:=hs 18 52 (by rfl) rfl
     (try simp only [ins5T,cond_true,cond_false,Bool.not_true,Bool.not_false,Bool.and_true,Bool.true_and,Bool.and_false,Bool.false_and] at s21 s18)
     first|(exact zat (ins5_22 ps) (by rw [zae rfl (zb7 ps) rfl s18];rfl) (hK w hSw))|(exact zbr (ins5_22 ps) (by rw [zae rfl (zb7 ps) rfl s18];rfl) (f:=18) (args:=#[.agg #[.int .i64 r.s.n,.slice h.ua r.s.u.length h.uc,.slice h.la h.es.length h.lc,.int .i64 r.cap,.int .i64 r.shift,.int .i64 r.edge,.int .u32 r.recent,.bool r.stamps,.bool r.sacks,.int .i64 r.fin,.bool r.dn,.slice h.fa r.first.length h.fc,.int .u32 r.irs,.int .u32 r.own,.bool r.stamp]]) (by rw [zbz rfl enter_chkR];simp only [List.map_toArray,List.map_cons,List.map_nil,s21];try rfl) ((c4 w hSw.2.2.2.2.2).mono (fun e w' hh=>⟨_,hh.1,hK w' ⟨hSw.1.later hh.2,hSw.2.1.later hh.2,hSw.2.2.1.later hh.2,hSw.2.2.2.1.later hh.2,hSw.2.2.2.2.1.later hh.2,Below.on hSw.2.2.2.2.2 hh.2⟩⟩)))
   | 23,_,ho =>
    as_aux_lemma =>
     obtain rfl:=Option.some.inj (ho.symm.trans (ins5_23 ps))
     have s20:=hs 20 54 (by rfl) rfl
     have s22:=hs 22 56 (by rfl) rfl
     have s18:=hs 18 52 (by rfl) rfl
     (try simp only [ins5T,cond_true,cond_false,Bool.not_true,Bool.not_false,Bool.and_true,Bool.true_and,Bool.and_false,Bool.false_and] at s20 s22 s18)
     first|(exact zat (ins5_23 ps) (by rw [zae rfl (zb7 ps) rfl s18];rfl) (hK w hSw))|(exact zal (ins5_23 ps) (by rw [zae rfl (zb7 ps) rfl s18];rfl) (by unfold ins5O23 execOp;simp only [s20,s22,ins5T,cond_true,cond_false,Bool.not_true,Bool.not_false,Bool.and_true,Bool.true_and,Bool.and_false,Bool.false_and];first|(go_simp;done)|(go_simp;with_reducible rfl)) (hK w hSw))
   | 24,_,ho =>
    as_aux_lemma =>
     obtain rfl:=Option.some.inj (ho.symm.trans (ins5_24 ps))
     have s18:=hs 18 52 (by rfl) rfl
     have s23:=hs 23 57 (by rfl) rfl
     (try simp only [ins5T,cond_true,cond_false,Bool.not_true,Bool.not_false,Bool.and_true,Bool.true_and,Bool.and_false,Bool.false_and] at s18 s23)
     exact zal (ins5_24 ps) rfl (by unfold ins5O24 execOp;simp only [s18,s23,ins5T,cond_true,cond_false,Bool.not_true,Bool.not_false,Bool.and_true,Bool.true_and,Bool.and_false,Bool.false_and];first|(go_simp;done)|(go_simp;with_reducible rfl)) (hK w hSw)
   | 25,_,ho =>
    as_aux_lemma =>
     obtain rfl:=Option.some.inj (ho.symm.trans (zg7 ps))
     have s24:=hs 24 58 (by rfl) rfl
     (try simp only [ins5T,cond_true,cond_false,Bool.not_true,Bool.not_false,Bool.and_true,Bool.true_and,Bool.and_false,Bool.false_and] at s24)
     exact zal (zg7 ps) rfl (by unfold ins5O25 execOp;simp only [s24,ins5T,cond_true,cond_false,Bool.not_true,Bool.not_false,Bool.and_true,Bool.true_and,Bool.and_false,Bool.false_and];first|(go_simp;done)|(go_simp;with_reducible rfl)) (hK w hSw)
   | 26,_,ho =>
    as_aux_lemma =>
     obtain rfl:=Option.some.inj (ho.symm.trans (ins5_26 ps))
     have s25:=hs 25 59 (by rfl) rfl
     (try simp only [ins5T,cond_true,cond_false,Bool.not_true,Bool.not_false,Bool.and_true,Bool.true_and,Bool.and_false,Bool.false_and] at s25)
     first|(exact zat (ins5_26 ps) (by rw [zae rfl (zg7 ps) rfl s25];rfl) (hK w hSw))|(exact zbr (ins5_26 ps) (by rw [zae rfl (zg7 ps) rfl s25];rfl) (f:=11) (args:=#[]) (by rw [zbz rfl enter_headsI];simp only [List.map_toArray,List.map_cons,List.map_nil];try rfl) ((c5 w hSw.2.2.2.2.2).mono (fun e w' hh=>⟨_,hh.1,hK w' ⟨hSw.1.later hh.2,hSw.2.1.later hh.2,hSw.2.2.1.later hh.2,hSw.2.2.2.1.later hh.2,hSw.2.2.2.2.1.later hh.2,Below.on hSw.2.2.2.2.2 hh.2⟩⟩)))
   | 27,_,ho =>
    as_aux_lemma =>
     obtain rfl:=Option.some.inj (ho.symm.trans (ins5_27 ps))
     have s25:=hs 25 59 (by rfl) rfl
     have s26:=hs 26 60 (by rfl) rfl
     (try simp only [ins5T,cond_true,cond_false,Bool.not_true,Bool.not_false,Bool.and_true,Bool.true_and,Bool.and_false,Bool.false_and] at s25 s26)
     exact zal (ins5_27 ps) rfl (by unfold ins5O27 execOp;simp only [s25,s26,ins5T,cond_true,cond_false,Bool.not_true,Bool.not_false,Bool.and_true,Bool.true_and,Bool.and_false,Bool.false_and];first|(go_simp;done)|(go_simp;with_reducible rfl)) (hK w hSw)
   | 28,_,ho =>
    as_aux_lemma =>
     obtain rfl:=Option.some.inj (ho.symm.trans (ins5_28 ps))
     have s27:=hs 27 61 (by rfl) rfl
     (try simp only [ins5T,cond_true,cond_false,Bool.not_true,Bool.not_false,Bool.and_true,Bool.true_and,Bool.and_false,Bool.false_and] at s27)
     exact zal (ins5_28 ps) rfl (by unfold ins5O28 execOp;simp only [s27,ins5T,cond_true,cond_false,Bool.not_true,Bool.not_false,Bool.and_true,Bool.true_and,Bool.and_false,Bool.false_and];first|(go_simp;done)|(go_simp;with_reducible rfl)) (hK w hSw)
   | iq+29,hin,_=>exact absurd hin (by omega)
end Go.Proofs.Ytkigcdmlkmcdcaa
