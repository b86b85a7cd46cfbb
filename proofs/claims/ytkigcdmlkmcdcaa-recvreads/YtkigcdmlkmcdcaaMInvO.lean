/- Operations of a drawn region, each by itself; Input's answer is one's own. -/
import Derived.Test.YtkigcdmlkmcdcaaZ
import Derived.Test.YtkigcdmlkmcdcaaMInv
import Derived.Test.YtkigcdmlkmcdcaaMInAll
import Derived.Test.YtkigcdmlkmcdcaaMSegA
namespace Go.Proofs.Ytkigcdmlkmcdcaa
open Go.ChangeShapes Go.WideShapes Go.ChangeAt Go.RowKit
set_option linter.unusedVariables false
set_option linter.unusedSimpArgs false

section
variable {P : Program} {ops : Array Oper} {Q : Exit → Act → World → Prop} {i : Nat} {o : Oper} {K : Act → World → Prop} {a : Act} {w : World}
end
theorem run_move {ev : Operand → Value} {o : Oper} {p : Operand} (ho : o.op = .move p) (w : World) : (execOp ev o).run Try.prog w = .ok (.value (ev p)) w := by
 unfold execOp
 simp only [ho]
 first | (go_simp; done) | (go_simp; with_reducible rfl)
theorem zd9 {ev : Operand → Value} {o : Oper} {p : Operand} (ho : o.op = .assign p) (w : World) : (execOp ev o).run Try.prog w = .ok (.value (ev p)) w := by
 unfold execOp
 simp only [ho]
 first | (go_simp; done) | (go_simp; with_reducible rfl)
theorem run_loadR {ev : Operand → Value} {o : Oper} {p : Operand} (ho : o.op = .load 27 p) {g : Nat} (hp : ev p = .pointer (some ⟨g, 0, none⟩)) (r : Pl.Rv) (h : Hd) (w : World) (hb : Box w g 27 (rvL r h)) : (execOp ev o).run Try.prog w = .ok (.value (.agg #[.int .i64 r.s.n, .slice h.ua r.s.u.length h.uc, .slice h.la h.es.length h.lc, .int .i64 r.cap, .int .i64 r.shift, .int .i64 r.edge, .int .u32 r.recent, .bool r.stamps, .bool r.sacks, .int .i64 r.fin, .bool r.dn, .slice h.fa r.first.length h.fc, .int .u32 r.irs, .int .u32 r.own, .bool r.stamp])) w := by
 obtain ⟨d0, d1, d2, d3, d4, d5, d6, d7, d8, d9, d10, d11, d12, d13, d14⟩ := Box.c15 hb
 unfold execOp
 simp only [ho, hp]
 first | (go_simp; done) | (go_simp; with_reducible rfl)
theorem zbp {a : Act} {o : Oper} {f : FuncId} {args : Array Operand} {ts : Array TypeId} (ho : o.op = .call { callee := .value (.func f), args := args, argTypes := ts }) (eg : ∀ args w, (callFunc f args).run Try.prog w = .ok (.enter f args) w) (w : World) : (execOp a.eval o).run Try.prog w = .ok (.enter f (args.map a.eval)) w := by
 unfold execOp
 simp only [ho]
 go_simp
theorem each_of {ops : Array Oper} {f : Oper → Nat → Bool} (h : ops.toList.zipIdx.all (fun p => f p.1 p.2) = true) (i : Nat) (o : Oper) (ho : ops[i]? = some o) : f o i = true := by
 rw [List.all_eq_true] at h
 exact h (o, i) (List.mem_zipIdx_iff_getElem?.2 (by simpa using ho))
theorem ends_of {ops : Array Oper} {n : Nat} (hn : ops.size = n) (hord : ∀ i o, ops[i]? = some o → ∀ e ∈ o.after, Region.binds .any e = true → e.on < i) (done : Array Bool) (hs : done.size = n) (hr : Region.ready .any ops done = []) : ∀ i, i < n → done.getD i true = true := by
 intro i
 induction i using Nat.strongRecOn with
 | _ i ih =>
  intro hi
  cases hd : done.getD i true with
  | true => rfl
  | false =>
   exfalso
   have hlt : i < ops.size := by omega
   have hm : i ∈ Region.ready .any ops done := by
    refine mem_ready.2 ⟨hd, ops[i], Array.getElem?_eq_getElem hlt, fun e he hb => ?_⟩
    have hlo := hord i _ (Array.getElem?_eq_getElem hlt) e he hb
    have := ih e.on hlo (by omega)
    have hl : e.on < done.size := by omega
    simp [hl] at this ⊢
    exact this
   rw [hr] at hm
   cases hm
end Go.Proofs.Ytkigcdmlkmcdcaa

