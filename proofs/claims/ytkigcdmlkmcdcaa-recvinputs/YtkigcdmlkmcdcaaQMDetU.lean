/- The document's sequence numbers. -/
import Derived.Test.YtkigcdmlkmcdcaaQZ
import Derived.Test.YtkigcdmlkmcdcaaQMSpansW
import Derived.Test.YtkigcdmlkmcdcaaQMInvO
namespace Go.Proofs.Ytkigcdmlkmcdcaa
open Go.ChangeShapes Go.WideShapes Go.ChangeAt Go.RowKit
set_option linter.unusedVariables false
set_option linter.unusedSimpArgs false
theorem zez (a b:Int) (ha:0≤a∧a≤4294967295) (hb:0≤b∧b≤4294967295) (w:World) :
 Calls Try.prog 39 #[.int .u32 a,.int .u32 b] w fun e w'=>e=.returned (.int .i64 (Pl.dfI a b))∧w'=w:=by
 go_enter Try.func39,Try.ntmps39
 go_wp2
 all_goals (go_ret;refine ⟨za9 ?_,rfl⟩;unfold Pl.dfI;omega)
theorem zdz (n:Int) (hn:-9223372036854775808≤n∧n≤9223372036854775807) (w:World) :
 Calls Try.prog 67 #[.int .i64 n] w fun e w'=>e=.returned (.int .i64 (n % 4294967296))∧w'=w:=by
 have htm:n.tmod 4294967296=if 0≤n then n % 4294967296 else -((-n) % 4294967296):=by
  split
  · rw [Int.tmod_eq_emod_of_nonneg (by omega)]
  · have h:n.tmod 4294967296=-((-n).tmod 4294967296):=by rw [Int.neg_tmod];omega
    rw [h,Int.tmod_eq_emod_of_nonneg (by omega)]
 by_cases hs:0≤n
 · go_enter Try.func67,Try.ntmps67
   go_wp2
   all_goals (go_ret;refine ⟨za9 ?_,rfl⟩;try omega)
 · obtain ⟨m,hm⟩:∃ m,n.tmod 4294967296=m:=⟨_,rfl⟩
   rw [if_neg hs] at htm
   have hm2:-4294967296<m∧m≤0:=by omega
   have H:Hid (m=-(-n % 4294967296)):=by rw [← hm,htm];exact rfl
   clear htm
   go_enter Try.func67,Try.ntmps67
   go_wp2
   all_goals (go_ret;refine ⟨za9 ?_,rfl⟩;have:=H.out;omega)
theorem zbj (a n:Int) (ha:0≤a∧a≤4294967295) (hn:-9223372036854775808≤n∧n≤9223372036854775807) (w:World) :
 Calls Try.prog 38 #[.int .u32 a,.int .i64 n] w fun e w'=>e=.returned (.int .u32 (Pl.adI a n))∧w'=w:=by
 have hm:0≤n % 4294967296∧n % 4294967296<4294967296:=by omega
 have hm2:0≤(a+n % 4294967296) % 4294967296∧(a+n % 4294967296) % 4294967296<4294967296:=by omega
 go_enter Try.func38,Try.ntmps38
 go_wp2_with fail
 refine (zdz _ hn _).mono ?_
 rintro e w' ⟨rfl,rfl⟩
 go_wp2_with fail
 refine (zdz _ (by omega) _).mono ?_
 rintro e w' ⟨rfl,rfl⟩
 go_wp2
 go_ret
 refine ⟨za9 ?_,rfl⟩
 unfold Pl.adI
 omega
theorem refSum_walk (a b:Int) (ha:-2251799813685248≤a∧a≤2251799813685248) (hb:-2251799813685248≤b∧b≤2251799813685248) (w:World) :
 Calls Try.prog 66 #[.int .i64 a,.int .i64 b] w fun e w'=>e=.returned (.int .i64 (a+b))∧w'=w:=by
 go_enter Try.func66,Try.ntmps66
 go_wp2
 all_goals go_ret
 all_goals (refine ⟨za9 ?_,rfl⟩;first|rfl|omega)
theorem zf1 (a b:Int) (ha:0≤a∧a≤1125899906842624) (hb:0≤b∧b≤4294967295) (w:World) :
 Calls Try.prog 37 #[.int .i64 a,.int .u32 b] w fun e w'=>e=.returned (.int .i64 (a+Pl.dfI (a % 4294967296) b))∧w'=w:=by
 have hm:0≤a % 4294967296∧a % 4294967296<4294967296:=by omega
 have hd:-2251799813685248≤Pl.dfI (a % 4294967296) b∧Pl.dfI (a % 4294967296) b≤2251799813685248:=by unfold Pl.dfI;omega
 have k2:=fun W=>zez (a % 4294967296) b (by omega) hb W
 obtain ⟨d,hdd⟩:∃ d,Pl.dfI (a % 4294967296) b=d:=⟨_,rfl⟩
 rw [hdd] at hd k2 ⊢
 clear hdd
 go_enter Try.func37,Try.ntmps37
 go_wp2_with fail
 refine (zdz a (by omega) _).mono ?_
 rintro e w' ⟨rfl,rfl⟩
 go_wp2_with fail
 refine (k2 _).mono ?_
 rintro e w' ⟨rfl,rfl⟩
 go_wp2_with fail
 refine (refSum_walk a d (by omega) hd _).mono ?_
 rintro e w' ⟨rfl,rfl⟩
 go_wp2_with fail
 go_ret
 exact ⟨rfl,rfl⟩
end Go.Proofs.Ytkigcdmlkmcdcaa
namespace Go.Proofs.Ytkigcdmlkmcdcaa
open Go.ChangeShapes Go.WideShapes Go.ChangeAt Go.RowKit
set_option linter.unusedVariables false
set_option linter.unusedSimpArgs false
set_option maxRecDepth 100000 in
set_option maxHeartbeats 16000000 in
theorem refChk_low (r:Pl.Rv) (h:Hd) (w:World) (hl:¬lowB r):Calls Try.prog 18 #[.agg #[.int .i64 r.s.n,.slice h.ua r.s.u.length h.uc,.slice h.la h.es.length h.lc,.int .i64 r.cap,.int .i64 r.shift,.int .i64 r.edge,.int .u32 r.recent,.bool r.stamps,.bool r.sacks,.int .i64 r.fin,.bool r.dn,.slice h.fa r.first.length h.fc,.int .u32 r.irs,.int .u32 r.own,.bool r.stamp]] w fun e w'=>e=.returned (.int .i64 230)∧Below w.heap.size w w':=by
 have HN:Hid (¬lowB r):=hl
 clear hl
 have HB:Hid (Below w.heap.size w (w.alloc (.cells #[.int .i64 r.s.n,.slice h.ua r.s.u.length h.uc,.slice h.la h.es.length h.lc,.int .i64 r.cap,.int .i64 r.shift,.int .i64 r.edge,.int .u32 r.recent,.bool r.stamps,.bool r.sacks,.int .i64 r.fin,.bool r.dn,.slice h.fa r.first.length h.fc,.int .u32 r.irs,.int .u32 r.own,.bool r.stamp] 27))):=zaa (Below.refl _ _) _
 go_enter Try.func18,Try.ntmps18
 go_wp2_with fail
 all_goals first
  | (go_ret;exact ⟨rfl,HB.out⟩)
  | (exfalso;refine HN.out ?_;unfold lowB;omega)
end Go.Proofs.Ytkigcdmlkmcdcaa
namespace Go.Proofs.Ytkigcdmlkmcdcaa
open Go.ChangeShapes Go.WideShapes Go.ChangeAt Go.RowKit
set_option linter.unusedVariables false
set_option linter.unusedSimpArgs false
def boolOf:Value→Option Bool
 | .bool b=>some b
 | _=>none
theorem yield_of {ops:Array Oper} {a:Act} {j:Nat} {o:Oper} {t:Tmp} (ho:ops[j]? = some o) (hd:o.dst=some t):yielded ops a.tmps j=boolOf (a.eval (.tmp t)):=by
 unfold yielded
 rw [ho]
 simp only [Option.bind_some,hd]
 rcases Nat.lt_or_ge t a.tmps.size with h|h
 · simp only [Act.eval,Array.getElem?_eq_getElem h,Array.getD_eq_getD_getElem?,Option.getD_some]
   unfold boolOf
   split<;>simp_all
 · simp only [Act.eval,Array.getElem?_eq_none h,Array.getD_eq_getD_getElem?,Option.getD_none]
   rfl
theorem zae {ops:Array Oper} {a:Act} {j:Nat} {o oj:Oper} {t:Tmp} {p:Bool} {v:Value} (hg:o.guard=some (j,p)) (ho:ops[j]? = some oj) (hd:oj.dst=some t) (hv:a.eval (.tmp t)=v):Region.wanted o (yielded ops a.tmps)=(boolOf v==some p):=by
 unfold Region.wanted
 rw [hg]
 show (yielded ops a.tmps j==some p)=_
 rw [yield_of ho hd,hv]
section
variable {P:Program} {ops:Array Oper} {Q:Exit→Act→World→Prop} {i:Nat} {o:Oper} {K:Act→World→Prop} {a:Act} {w:World}
theorem zat (ho:ops[i]? = some o) (hw:Region.wanted o (yielded ops a.tmps)=false) (hK:K (a.put o.dst undef) w):wpOp P ops Q i K a w:=by
 refine wpOp_step ho (fun K' hK'=>?_)
 rw [if_neg (by rw [hw];simp)]
 exact hK' _ _ hK
theorem zal (ho:ops[i]? = some o) (hw:Region.wanted o (yielded ops a.tmps)=true) {v:Value} {w':World} (hr:(execOp a.eval o).run P w=.ok (.value v) w') (hK:K (a.put o.dst v) w'):wpOp P ops Q i K a w:=by
 refine wpOp_step ho (fun K' hK'=>?_)
 rw [if_pos hw]
 unfold Oper.wp
 rw [hr]
 exact hK' _ _ hK
theorem zbr (ho:ops[i]? = some o) (hw:Region.wanted o (yielded ops a.tmps)=true) {f:FuncId} {args:Array Value} (hr:(execOp a.eval o).run P w=.ok (.enter f args) w) (hc:Calls P f args w fun e w'=>∃ v,e=.returned v∧K (a.put o.dst v) w'):wpOp P ops Q i K a w:=by
 refine wpOp_step ho (fun K' hK'=>?_)
 rw [if_pos hw]
 unfold Oper.wp
 rw [hr,Oper.upon_enter]
 refine hc.mono ?_
 rintro e w' ⟨v,rfl,h⟩
 exact hK' _ _ h
end
theorem zby {P:Program} {ops:Array Oper} {Q:Exit→Act→World→Prop} {id:Nat} {a0:Act} {w0:World} (hm:P.follows .mixedOrders=true)
 (n:Nat) (hn:ops.size=n) (dst:Nat→Option Tmp) (hsz:∀ j t,j<n→dst j=some t→t<a0.tmps.size)
 (hdist:∀ j∈List.range n,∀ k∈List.range n,j≠k→dst j≠dst k∨dst j=none)
 (T:Nat→Value) (S:World→Prop) (hS:S w0.drew)
 (hstep:∀ i o,ops[i]? = some o→∀ a w,S w→(∀ j t,(o.after.toList.any fun e=>Region.binds .any e&&e.on==j)=true→dst j=some t→a.eval (.tmp t)=T j)→(∀ t,(∀ j,j<n→dst j≠some t)→a.eval (.tmp t)=a0.eval (.tmp t)) →
  ∀ K:Act→World→Prop,(∀ w',S w'→K (a.put (dst i) (T i)) w')→wpOp P ops Q i K a w)
 (hord:ops.toList.zipIdx.all (fun p=>p.1.after.toList.all fun e => !(Region.binds .any e) || decide (e.on<p.2))=true)
 (hfin:∀ w,S w→Q .normal (selA dst T (fun _=>true) (List.range n) a0) w) :
 (Code.region id ops true).wp P Q a0 w0:=by
 refine zff hm n hn dst hsz hdist (fun i v _=>i<n→v i=T i) S (fun _=>[]) (fun _ _ _ m hm=>by cases hm) (fun i v v' _ hi e _ h hi'=>e.symm.trans (h hi')) hS ?_ (ends_of hn ?_) ?_
 · intro i o ho D v a w kn hD hnD K hK
   refine hstep i o ho a w kn.all (fun j t hj ht=>?_) kn.els K (fun w' hS'=>hK (T i) w' hS' (fun _=>upd_at ..) (fun _ _ h=>h))
   simp only [List.any_eq_true,Bool.and_eq_true,beq_iff_eq] at hj
   obtain ⟨e,he,hbn,rfl⟩:=hj
   have hd:=hD e (by simpa using he) hbn
   exact (kn.slot e.on t hd ht).trans (kn.fact e.on hd (kn.lt e.on hd))
 · intro i o ho e he hb
   have:=each_of (ops:=ops) (f:=fun o i=>o.after.toList.all fun e => !(Region.binds .any e) || decide (e.on<i)) hord i o ho
   rw [List.all_eq_true] at this
   have:=this e (by simpa using he)
   rw [hb] at this
   simpa using this
 · intro v w hSw hF
   rw [zdi (vals':=T) (done':=fun _=>true) (List.range n) a0 (fun j hj=>⟨hF j (List.mem_range.1 hj) (List.mem_range.1 hj),rfl⟩)]
   exact hfin w hSw
theorem run_sliceH {ev:Operand→Value} {o:Oper} {t:TypeId} {p q:Operand} {v u x:Value} {e:TypeId} (hu:Try.prog.underlying t=some (.slice e)) (ho:o.op=.slice t p none (some q) none) (hp:ev p=v) (hq:ev q=u) (hr:∀ W,(Instr.slice t v none (some u) none).run Try.prog W=.ok x W) (w:World):(execOp ev o).run Try.prog w=.ok (.value x) w:=by
 unfold execOp
 simp only [ho,Option.map_some,Option.map_none,hp,hq,Sem.run_bind]
 unfold Instr.sliceAt
 simp only [Sem.run_bind,run_underlying hu,Result.andThen_ok,hr,Sem.run_pure]
end Go.Proofs.Ytkigcdmlkmcdcaa
namespace Go.Proofs.Ytkigcdmlkmcdcaa
open Go.ChangeShapes Go.WideShapes Go.ChangeAt Go.RowKit
set_option linter.unusedVariables false
set_option linter.unusedSimpArgs false
def AllA (dst:Nat→Option Tmp) (T:Nat→Value) (a:Act):List Edge→Prop
 | []=>True
 | e::r=>(match Region.binds .any e,dst e.on with|true,some t=>a.eval (.tmp t)=T e.on|_,_=>True)∧AllA dst T a r
theorem zcx {dst:Nat→Option Tmp} {T:Nat→Value} {a:Act}:∀ {l:List Edge},(∀ j t,(l.any fun e=>Region.binds .any e&&e.on==j)=true→dst j=some t→a.eval (.tmp t)=T j)→AllA dst T a l
 | [],_=>trivial
 | e::r,h=>by
  refine ⟨?_,zcx (fun j t hj ht=>h j t (by rw [List.any_cons,hj,Bool.or_true]) ht)⟩
  split
  · rename_i t h1 h2
    exact h e.on t (by rw [List.any_cons,h1];simp) h2
  · trivial
section
variable {P:Program} {ops:Array Oper} {Q:Exit→Act→World→Prop} {i:Nat} {o:Oper} {K:Act→World→Prop} {a:Act} {w:World}
theorem op_gd {j:Nat} {oj:Oper} {t:Tmp} {c:Bool} {v:Value} (ho:ops[i]? = some o) (hg:o.guard=some (j,true)) (hoj:ops[j]? = some oj) (hd:oj.dst=some t) (hv:a.eval (.tmp t)=.bool c) (h1:c=true→(execOp a.eval o).run P w=.ok (.value v) w) (hK:K (a.put o.dst (cond c v undef)) w):wpOp P ops Q i K a w:=by
 cases c with
 | true=>exact zal ho (by rw [zae hg hoj hd hv];rfl) (h1 rfl) hK
 | false=>exact zat ho (by rw [zae hg hoj hd hv];rfl) hK
theorem op_gn {j:Nat} {oj:Oper} {t:Tmp} {c:Bool} {v:Value} (ho:ops[i]? = some o) (hg:o.guard=some (j,false)) (hoj:ops[j]? = some oj) (hd:oj.dst=some t) (hv:a.eval (.tmp t)=.bool c) (h1:c=false→(execOp a.eval o).run P w=.ok (.value v) w) (hK:K (a.put o.dst (cond (!c) v undef)) w):wpOp P ops Q i K a w:=by
 cases c with
 | false=>exact zal ho (by rw [zae hg hoj hd hv];rfl) (h1 rfl) hK
 | true=>exact zat ho (by rw [zae hg hoj hd hv];rfl) hK
end
end Go.Proofs.Ytkigcdmlkmcdcaa
