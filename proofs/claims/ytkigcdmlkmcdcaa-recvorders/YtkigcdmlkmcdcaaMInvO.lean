/- Operations of a drawn region, each by itself; Input's answer is one's own. -/
import Derived.Test.YtkigcdmlkmcdcaaMInv
import Derived.Test.YtkigcdmlkmcdcaaMInAll
import Derived.Test.YtkigcdmlkmcdcaaMSegA
namespace Go.Proofs.Ytkigcdmlkmcdcaa
open Go.ChangeShapes Go.WideShapes Go.ChangeAt Go.RowKit
set_option linter.unusedVariables false
set_option linter.unusedSimpArgs false

section
variable {P : Program} {ops : Array Oper} {Q : Exit → Act → World → Prop} {i : Nat} {o : Oper} {K : Act → World → Prop} {a : Act} {w : World}
theorem op_val (ho : ops[i]? = some o) (hg : o.guard = none) {v : Value} {w' : World} (hr : (execOp a.eval o).run P w = .ok (.value v) w') (hK : K (a.put o.dst v) w') : wpOp P ops Q i K a w := by
  refine wpOp_step ho (fun K' hK' => ?_)
  have hw : Region.wanted o (yielded ops a.tmps) = true := by simp [Region.wanted, hg]
  rw [if_pos hw]
  unfold Oper.wp
  rw [hr]
  exact hK' _ _ hK
theorem op_enter (ho : ops[i]? = some o) (hg : o.guard = none) {f : FuncId} {args : Array Value} (hr : (execOp a.eval o).run P w = .ok (.enter f args) w) (hc : Calls P f args w fun e w' => ∃ v, e = .returned v ∧ K (a.put o.dst v) w') : wpOp P ops Q i K a w := by
  refine wpOp_step ho (fun K' hK' => ?_)
  have hw : Region.wanted o (yielded ops a.tmps) = true := by simp [Region.wanted, hg]
  rw [if_pos hw]
  unfold Oper.wp
  rw [hr, Oper.upon_enter]
  refine hc.mono ?_
  rintro e w' ⟨v, rfl, h⟩
  exact hK' _ _ h
theorem op_if (ho : ops[i]? = some o) (h : ∀ K' : Act → World → Prop, (∀ a w, K a w → K' a w) → if Region.wanted o (yielded ops a.tmps) = true then Oper.wp P o a w K' Q else K' (a.put o.dst undef) w) : wpOp P ops Q i K a w := wpOp_step ho h
end
theorem run_move {ev : Operand → Value} {o : Oper} {p : Operand} (ho : o.op = .move p) (w : World) : (execOp ev o).run Try.prog w = .ok (.value (ev p)) w := by
  unfold execOp
  simp only [ho]
  first | (go_simp; done) | (go_simp; with_reducible rfl)
theorem run_assign {ev : Operand → Value} {o : Oper} {p : Operand} (ho : o.op = .assign p) (w : World) : (execOp ev o).run Try.prog w = .ok (.value (ev p)) w := by
  unfold execOp
  simp only [ho]
  first | (go_simp; done) | (go_simp; with_reducible rfl)
theorem run_extract {ev : Operand → Value} {o : Oper} {p : Operand} {k : Nat} (ho : o.op = .extract p k) {vs : Array Value} (hp : ev p = .tuple vs) {v : Value} (hv : vs[k]? = some v) (w : World) : (execOp ev o).run Try.prog w = .ok (.value v) w := by
  unfold execOp
  simp only [ho, hp]
  go_simp
theorem run_len {ev : Operand → Value} {o : Oper} {p : Operand} (ho : o.op = .call { callee := .builtin .len, args := #[p], argTypes := #[22] }) (hty : o.type = 3) {a : Option Addr} {n c : Nat} (hp : ev p = .slice a n c) (w : World) : (execOp ev o).run Try.prog w = .ok (.value (.int .i64 (n : Int))) w := by
  unfold execOp
  simp only [ho, hty]
  first | (go_simp; done) | (go_simp; with_reducible rfl)
theorem run_allocR {ev : Operand → Value} {o : Oper} (ho : o.op = .alloc 27) (w : World) : (execOp ev o).run Try.prog w = .ok (.value (.pointer (some ⟨w.heap.size, 0, none⟩))) (w.alloc (.cells #[.int .i64 0, .slice none 0 0, .slice none 0 0, .int .i64 0, .int .i64 0, .int .i64 0, .int .u32 0, .bool false, .bool false, .int .i64 0, .bool false, .slice none 0 0, .int .u32 0, .int .u32 0, .bool false] 27)) := by
  unfold execOp
  simp only [ho]
  first | (go_simp; done) | (go_simp; with_reducible rfl)
theorem run_allocS {ev : Operand → Value} {o : Oper} (ho : o.op = .alloc 34) (w : World) : (execOp ev o).run Try.prog w = .ok (.value (.pointer (some ⟨w.heap.size, 0, none⟩))) (w.alloc (.cells #[.int .i64 0, .int .i64 0, .int .u32 0, .int .u32 0, .int .i64 0, .int .i64 0, .int .i64 0, .int .i64 0, .int .i64 0, .bool false, .bool false, .int .u32 0, .int .u32 0, .slice none 0 0, .slice none 0 0] 34)) := by
  unfold execOp
  simp only [ho]
  first | (go_simp; done) | (go_simp; with_reducible rfl)
theorem run_loadR {ev : Operand → Value} {o : Oper} {p : Operand} (ho : o.op = .load 27 p) {g : Nat} (hp : ev p = .pointer (some ⟨g, 0, none⟩)) (r : Pl.Rv) (h : Hd) (w : World) (hb : Box w g 27 [.int .i64 r.s.n, .slice h.ua r.s.u.length h.uc, .slice h.la h.es.length h.lc, .int .i64 r.cap, .int .i64 r.shift, .int .i64 r.edge, .int .u32 r.recent, .bool r.stamps, .bool r.sacks, .int .i64 r.fin, .bool r.dn, .slice h.fa r.first.length h.fc, .int .u32 r.irs, .int .u32 r.own, .bool r.stamp]) : (execOp ev o).run Try.prog w = .ok (.value (.agg #[.int .i64 r.s.n, .slice h.ua r.s.u.length h.uc, .slice h.la h.es.length h.lc, .int .i64 r.cap, .int .i64 r.shift, .int .i64 r.edge, .int .u32 r.recent, .bool r.stamps, .bool r.sacks, .int .i64 r.fin, .bool r.dn, .slice h.fa r.first.length h.fc, .int .u32 r.irs, .int .u32 r.own, .bool r.stamp])) w := by
  obtain ⟨d0, d1, d2, d3, d4, d5, d6, d7, d8, d9, d10, d11, d12, d13, d14⟩ := Box.c15 hb
  unfold execOp
  simp only [ho, hp]
  first | (go_simp; done) | (go_simp; with_reducible rfl)
theorem run_call {a : Act} {o : Oper} {f : FuncId} {args : Array Operand} {ts : Array TypeId} (ho : o.op = .call { callee := .value (.func f), args := args, argTypes := ts }) (eg : ∀ args w, (callFunc f args).run Try.prog w = .ok (.enter f args) w) (w : World) : (execOp a.eval o).run Try.prog w = .ok (.enter f (args.map a.eval)) w := by
  unfold execOp
  simp only [ho]
  go_simp
theorem enter_seg (args : Array Value) (w : World) : (callFunc 25 args).run Try.prog w = .ok (.enter 25 args) w := by kernel_rfl
theorem enter_input (args : Array Value) (w : World) : (callFunc 14 args).run Try.prog w = .ok (.enter 14 args) w := by kernel_rfl
theorem enter_read (args : Array Value) (w : World) : (callFunc 12 args).run Try.prog w = .ok (.enter 12 args) w := by kernel_rfl
/-- What Input answers is its own. -/
theorem recvInput_own (r : Pl.Rv) (h : Hd) (s : Seg) (ks : Hs) (w : World) (H : RvAt w r h) (hok : r.Ok) (hs : SgAt w s ks) (R : Pl.Rv) (hR : Pl.inR r (segOf s) = R) (b : Bool) (hb : Pl.inB r (segOf s) = b) :
    Calls Try.prog 14 #[.agg #[.int .i64 r.s.n, .slice h.ua r.s.u.length h.uc, .slice h.la h.es.length h.lc, .int .i64 r.cap, .int .i64 r.shift, .int .i64 r.edge, .int .u32 r.recent, .bool r.stamps, .bool r.sacks, .int .i64 r.fin, .bool r.dn, .slice h.fa r.first.length h.fc, .int .u32 r.irs, .int .u32 r.own, .bool r.stamp], .agg #[.int .i64 s.sp, .int .i64 s.dp, .int .u32 s.sq, .int .u32 s.ak, .int .i64 s.fl, .int .i64 s.wn, .int .i64 s.ur, .int .i64 s.ms, .int .i64 s.sc, .bool s.so, .bool s.st, .int .u32 s.va, .int .u32 s.ec, .slice ks.ka s.sk.length ks.kc, .slice ks.da s.da.length ks.dc]] w fun e w' => ∃ (k : Hd) (T : Seg) (kt : Hs), e = .returned (.tuple #[.agg #[.int .i64 R.s.n, .slice k.ua R.s.u.length k.uc, .slice k.la k.es.length k.lc, .int .i64 R.cap, .int .i64 R.shift, .int .i64 R.edge, .int .u32 R.recent, .bool R.stamps, .bool R.sacks, .int .i64 R.fin, .bool R.dn, .slice k.fa R.first.length k.fc, .int .u32 R.irs, .int .u32 R.own, .bool R.stamp], .agg #[.int .i64 T.sp, .int .i64 T.dp, .int .u32 T.sq, .int .u32 T.ak, .int .i64 T.fl, .int .i64 T.wn, .int .i64 T.ur, .int .i64 T.ms, .int .i64 T.sc, .bool T.so, .bool T.st, .int .u32 T.va, .int .u32 T.ec, .slice kt.ka T.sk.length kt.kc, .slice kt.da T.da.length kt.dc], .bool b, .int .i64 0]) ∧ RvOwn w' w.heap.size R k ∧ Below w.heap.size w w' := by
  by_cases c : r.stamps = true ∧ s.st = false
  · have e1 : Pl.inR r (segOf s) = r := by unfold Pl.inR; rw [if_pos (show r.stamps = true ∧ (segOf s).stamped = false from c)]
    have e2 : Pl.inB r (segOf s) = false := by unfold Pl.inB segOf; simp [c.1, c.2]
    rw [e1] at hR
    rw [e2] at hb
    subst hR; subst hb
    refine (recvInput_bare r h s ks w H hok c).mono ?_
    rintro e w' ⟨k, he, hO, hB⟩
    exact ⟨k, zeroS, ⟨none, 0, none, 0⟩, he, hO.mono (by omega), hB⟩
  · have hst : r.stamps = false ∨ s.st = true := by
      cases h7 : r.stamps
      · exact .inl rfl
      · cases h8 : s.st
        · exact absurd ⟨h7, h8⟩ c
        · exact .inr rfl
    have e2 : Pl.inB r (segOf s) = true := by
      unfold Pl.inB segOf
      rcases hst with h | h <;> simp [h]
    rw [e2] at hb
    subst hb
    have e1 : Pl.tellR (if Pl.oldB r (segOf s) = true then r else Pl.intoR r (segOf s)) = R := by
      rw [← hR]
      unfold Pl.inR
      rw [if_neg (show ¬ (r.stamps = true ∧ (segOf s).stamped = false) from c)]
      split <;> rfl
    have key := recvInput_in r h s ks w H hok hs hst _ rfl _ rfl
    rw [e1] at key
    refine key.mono ?_
    rintro e w' ⟨k, kt, he, hO, _, hB⟩
    exact ⟨k, _, kt, he, hO.mono (by omega), hB⟩
/-- seg's segment lies where the text lies. -/
theorem seg_old (irs : Int) (a : Option Addr) (c x n : Nat) (ts : List Int) (w W0 : World) (hi : U32 irs) (ht : SlAt W0 a c ts) (hx : x ≤ ts.length) (hL : ts.length ≤ 200) (hn : n ≤ 200) (L : Nat) (hl : ts.length = L) :
    Calls Try.prog 25 #[.int .u32 irs, .slice a L c, .int .i64 (x : Int), .int .i64 (n : Int), .bool true] w fun e w' => ∃ (s : Seg) (ks : Hs) (t : Nat), e = .returned (.agg #[.int .i64 s.sp, .int .i64 s.dp, .int .u32 s.sq, .int .u32 s.ak, .int .i64 s.fl, .int .i64 s.wn, .int .i64 s.ur, .int .i64 s.ms, .int .i64 s.sc, .bool s.so, .bool s.st, .int .u32 s.va, .int .u32 s.ec, .slice ks.ka s.sk.length ks.kc, .slice ks.da s.da.length ks.dc]) ∧ SgAt W0 s ks ∧ Pl.Part (segOf s) ts irs x t ∧ (x + n = ts.length → t = ts.length) ∧ Below w.heap.size w w' := by
  subst hl
  have hc : ts.length ≤ c := ht.2.2
  have hq : U32 ((irs + (x : Int)) % 4294967296) := by unfold U32; omega
  by_cases hlt : x + n < ts.length
  · obtain ⟨h1, h2⟩ := ht.cut2 x (x + n) (by omega) (by omega)
    refine (seg_more irs a ts.length c x n w hi hx hc hL hn hlt _ rfl).mono ?_
    rintro e w' ⟨he, hb⟩
    refine ⟨partS irs ts x (x + n) 0, ⟨none, 0, cutB a c x, c - x⟩, x + n, ?_, ?_, ?_, ?_, hb⟩
    · rw [he]
      have e1 : ((ts.take (x + n)).drop x).length = n := by rw [h2]; omega
      simp only [partS, e1]
      rfl
    · exact { blks := by simp [partS, BlksAt], data := h1, sq := hq, va := (by simp [partS, U32]), fl := (by simp [partS, I64]) }
    · have hne : ¬ x + n = ts.length := by omega
      exact { seq := rfl, xt := by omega, tl := by omega, small := hL, ds := rfl, fin := (by simp only [hne, decide_false, segOf, partS]; exact fin_none), st := rfl, val := rfl }
    · intro e; omega
  · obtain ⟨h1, h2⟩ := ht.cut2 x ts.length hx (Nat.le_refl _)
    refine (seg_last irs a ts.length c x n w hi hx hc hL hn hlt _ rfl).mono ?_
    rintro e w' ⟨he, hb⟩
    refine ⟨partS irs ts x ts.length 1, ⟨none, 0, cutB a c x, c - x⟩, ts.length, ?_, ?_, ?_, fun _ => rfl, hb⟩
    · rw [he]
      simp only [partS, h2]
      rfl
    · exact { blks := by simp [partS, BlksAt], data := h1, sq := hq, va := (by simp [partS, U32]), fl := (by simp [partS, I64]) }
    · exact { seq := rfl, xt := hx, tl := Nat.le_refl _, small := hL, ds := rfl, fin := (by simp only [decide_true, segOf, partS]; exact fin_bit), st := rfl, val := rfl }
theorem each_of {ops : Array Oper} {f : Oper → Nat → Bool} (h : ops.toList.zipIdx.all (fun p => f p.1 p.2) = true) (i : Nat) (o : Oper) (ho : ops[i]? = some o) : f o i = true := by
  rw [List.all_eq_true] at h
  exact h (o, i) (List.mem_zipIdx_iff_getElem?.2 (by simpa using ho))
/-- Where nothing is left to be done, all is done. -/
theorem ends_of {ops : Array Oper} {n : Nat} (hn : ops.size = n) (hord : ∀ i o, ops[i]? = some o → ∀ e ∈ o.after, Region.binds .any e = true → e.on < i) (done : Array Bool) (hs : done.size = n) (hr : Region.ready .any ops done = []) : ∀ i, i < n → done.getD i true = true := by
  intro i
  induction i using Nat.strongRecOn with
  | _ i ih =>
    intro hi
    cases hd : done.getD i true with
    | true => rfl
    | false =>
      exfalso
      have hlt : i < ops.size := by omega
      have hm : i ∈ Region.ready .any ops done := by
        refine mem_ready.2 ⟨hd, ops[i], Array.getElem?_eq_getElem hlt, fun e he hb => ?_⟩
        have hlo := hord i _ (Array.getElem?_eq_getElem hlt) e he hb
        have := ih e.on hlo (by omega)
        have hl : e.on < done.size := by omega
        simp [hl] at this ⊢
        exact this
      rw [hr] at hm
      cases hm
end Go.Proofs.Ytkigcdmlkmcdcaa
