/- Region 17 of RecvOrders: Read, whatever order is drawn. -/
import Derived.Test.YtkigcdmlkmcdcaaMInvO
namespace Go.Proofs.Ytkigcdmlkmcdcaa
open Go.ChangeShapes Go.WideShapes Go.ChangeAt Go.RowKit
set_option linter.unusedVariables false
set_option linter.unusedSimpArgs false

/-- No byte is among these. -/
def NoB (cs : List Value) : Prop := ∀ c ∈ cs, ∀ x, c ≠ .int .u8 x
theorem noB_R (r : Pl.Rv) (h : Hd) : NoB [.int .i64 r.s.n, .slice h.ua r.s.u.length h.uc, .slice h.la h.es.length h.lc, .int .i64 r.cap, .int .i64 r.shift, .int .i64 r.edge, .int .u32 r.recent, .bool r.stamps, .bool r.sacks, .int .i64 r.fin, .bool r.dn, .slice h.fa r.first.length h.fc, .int .u32 r.irs, .int .u32 r.own, .bool r.stamp] := by intro c hc x; simp only [List.mem_cons, List.not_mem_nil, or_false] at hc; rcases hc with rfl | rfl | rfl | rfl | rfl | rfl | rfl | rfl | rfl | rfl | rfl | rfl | rfl | rfl | rfl <;> simp
theorem noB_S (s : Seg) (k : Hs) : NoB [.int .i64 s.sp, .int .i64 s.dp, .int .u32 s.sq, .int .u32 s.ak, .int .i64 s.fl, .int .i64 s.wn, .int .i64 s.ur, .int .i64 s.ms, .int .i64 s.sc, .bool s.so, .bool s.st, .int .u32 s.va, .int .u32 s.ec, .slice k.ka s.sk.length k.kc, .slice k.da s.da.length k.dc] := by intro c hc x; simp only [List.mem_cons, List.not_mem_nil, or_false] at hc; rcases hc with rfl | rfl | rfl | rfl | rfl | rfl | rfl | rfl | rfl | rfl | rfl | rfl | rfl | rfl | rfl <;> simp
theorem noB_ZR : NoB [.int .i64 0, .slice none 0 0, .slice none 0 0, .int .i64 0, .int .i64 0, .int .i64 0, .int .u32 0, .bool false, .bool false, .int .i64 0, .bool false, .slice none 0 0, .int .u32 0, .int .u32 0, .bool false] := by intro c hc x; simp only [List.mem_cons, List.not_mem_nil, or_false] at hc; rcases hc with rfl | rfl | rfl | rfl | rfl | rfl | rfl | rfl | rfl | rfl | rfl | rfl | rfl | rfl | rfl <;> simp
theorem noB_ZS : NoB [.int .i64 0, .int .i64 0, .int .u32 0, .int .u32 0, .int .i64 0, .int .i64 0, .int .i64 0, .int .i64 0, .int .i64 0, .bool false, .bool false, .int .u32 0, .int .u32 0, .slice none 0 0, .slice none 0 0] := by intro c hc x; simp only [List.mem_cons, List.not_mem_nil, or_false] at hc; rcases hc with rfl | rfl | rfl | rfl | rfl | rfl | rfl | rfl | rfl | rfl | rfl | rfl | rfl | rfl | rfl <;> simp
theorem SlAt.besideB {w : World} {a : Option Addr} {c : Nat} {bs : List Int} (h : SlAt w a c bs) {p : Nat} {t : TypeId} {cs : List Value} (hb : Box w p t cs) (hn : NoB cs) (i : Nat) (vs : List Value) : SlAt (setAll w p i vs) a c bs := by
  refine ⟨⟨h.1.1, h.1.2.1, fun j hj => ?_⟩, h.2⟩
  obtain ⟨b, o, e, hc⟩ := h.1.2.2 j hj
  refine ⟨b, o, e, ?_⟩
  have hbp : b ≠ p := by
    rintro rfl
    have hbx : w.heap[b]? = some (.cells cs.toArray t (0, 0)) := hb
    simp only [World.cell?, hbx] at hc
    have hm : (Value.int .u8 (bs[j]?.getD 0)) ∈ cs := by
      simp at hc
      exact List.mem_of_getElem? hc
    exact hn _ hm _ rfl
  have : (setAll w p i vs).heap[b]? = w.heap[b]? := setAll_other hbp
  simp only [World.cell?] at hc ⊢
  rw [this]
  exact hc
theorem run_index {ev : Operand → Value} {o : Oper} {p q : Operand} (ho : o.op = .indexAddr 57 p q) {b f n c i : Nat} (hp : ev p = .slice (some ⟨b, f, none⟩) n c) (hq : ev q = .int .i64 (i : Int)) (hi : (i : Int) < (n : Int)) (w : World) : (execOp ev o).run Try.prog w = .ok (.value (.pointer (some ⟨b, f + i, none⟩))) w := by
  have h0 : (0 : Int) ≤ (i : Int) := by omega
  unfold execOp
  simp only [ho, hp, hq]
  first | (go_simp; done) | (go_simp; with_reducible rfl)
theorem run_loadI {ev : Operand → Value} {o : Oper} {p : Operand} (ho : o.op = .load 3 p) {b f : Nat} (hp : ev p = .pointer (some ⟨b, f, none⟩)) {y : Int} (w : World) (hc : w.cell? ⟨b, f, none⟩ = some (.int .i64 y)) : (execOp ev o).run Try.prog w = .ok (.value (.int .i64 y)) w := by
  unfold execOp
  simp only [ho, hp]
  first | (go_simp; done) | (go_simp; with_reducible rfl)
theorem run_and {ev : Operand → Value} {o : Oper} {p : Operand} {y m z : Int} (ho : o.op = .binOp .and 3 p (.const (.int .i64 z)) 3) (hp : ev p = .int .i64 y) (hz : ev (.const (.int .i64 z)) = .int .i64 z) (hm : bits BinOp.and IntKind.i64 y z = m) (w : World) : (execOp ev o).run Try.prog w = .ok (.value (.int .i64 m)) w := by
  unfold execOp
  simp only [ho, hp, hz]
  first | (go_simp; done) | (go_simp; with_reducible rfl)
def ops17O0 (ps : String) : Oper := { dst := some 118, op := .load 27 (.tmp 9), type := 27, pos := ps, after := #[], guard := none }
def ops17O1 (ps : String) : Oper := { dst := some 119, op := .move (.tmp 3), type := 57, pos := ps, after := #[], guard := none }
def ops17O2 (ps : String) : Oper := { dst := some 120, op := .move (.tmp 12), type := 3, pos := ps, after := #[], guard := none }
def ops17O3 (ps : String) : Oper := { dst := some 121, op := .indexAddr 57 (.tmp 119) (.tmp 120), type := 0, pos := ps, after := #[{ on := 1, ground := .data }, { on := 2, ground := .data }], guard := none }
def ops17O4 (ps : String) : Oper := { dst := some 122, op := .load 3 (.tmp 121), type := 3, pos := ps, after := #[{ on := 3, ground := .data }], guard := none }
def ops17O5 (ps : String) : Oper := { dst := some 123, op := .binOp .and 3 (.tmp 122) (.const (.int .i64 31)) 3, type := 3, pos := ps, after := #[{ on := 4, ground := .data }], guard := none }
def ops17O6 (ps : String) : Oper := { dst := some 124, op := .call { callee := .value (.func 12), args := #[.tmp 118, .tmp 123], argTypes := #[27, 3] }, type := 35, pos := ps, after := #[{ on := 0, ground := .data }, { on := 5, ground := .data }], guard := none }
def ops17O7 (ps : String) : Oper := { dst := some 117, op := .move (.tmp 124), type := 35, pos := ps, after := #[{ on := 6, ground := .data }], guard := none }
def ops17O8 (ps : String) : Oper := { dst := some 125, op := .extract (.tmp 117) 0, type := 27, pos := ps, after := #[{ on := 7, ground := .data }], guard := none }
def ops17O9 (ps : String) : Oper := { dst := some 126, op := .extract (.tmp 117) 1, type := 22, pos := ps, after := #[{ on := 7, ground := .data }, { on := 15, ground := .gcOnly .lateStores }], guard := none }
def ops17O10 (ps : String) : Oper := { dst := some 127, op := .extract (.tmp 117) 2, type := 34, pos := ps, after := #[{ on := 7, ground := .data }, { on := 16, ground := .gcOnly .lateStores }], guard := none }
def ops17O11 (ps : String) : Oper := { dst := some 128, op := .extract (.tmp 117) 3, type := 4, pos := ps, after := #[{ on := 7, ground := .data }, { on := 17, ground := .gcOnly .lateStores }], guard := none }
def ops17O12 (ps : String) : Oper := { dst := some 129, op := .extract (.tmp 117) 4, type := 28, pos := ps, after := #[{ on := 7, ground := .data }, { on := 18, ground := .gcOnly .lateStores }], guard := none }
def ops17O13 (ps : String) : Oper := { dst := some 19, op := .alloc 27, type := 0, pos := ps, after := #[], guard := none }
def ops17O14 (ps : String) : Oper := { dst := some 21, op := .alloc 34, type := 0, pos := ps, after := #[], guard := none }
def ops17O15 (ps : String) : Oper := { dst := none, op := .store 27 (.tmp 19) (.tmp 125), type := 0, pos := ps, after := #[{ on := 13, ground := .data }, { on := 8, ground := .data }, { on := 6, ground := .chain }, { on := 0, ground := .phase }, { on := 1, ground := .phase }, { on := 2, ground := .phase }, { on := 3, ground := .phase }, { on := 4, ground := .phase }, { on := 5, ground := .phase }, { on := 6, ground := .phase }, { on := 7, ground := .phase }, { on := 8, ground := .phase }, { on := 9, ground := .textOnly .lateStores }, { on := 10, ground := .textOnly .lateStores }, { on := 11, ground := .textOnly .lateStores }, { on := 12, ground := .textOnly .lateStores }, { on := 13, ground := .phase }, { on := 14, ground := .phase }], guard := none }
def ops17O16 (ps : String) : Oper := { dst := some 20, op := .assign (.tmp 126), type := 22, pos := ps, after := #[{ on := 9, ground := .data }, { on := 15, ground := .chain }, { on := 0, ground := .phase }, { on := 1, ground := .phase }, { on := 2, ground := .phase }, { on := 3, ground := .phase }, { on := 4, ground := .phase }, { on := 5, ground := .phase }, { on := 6, ground := .phase }, { on := 7, ground := .phase }, { on := 8, ground := .phase }, { on := 9, ground := .phase }, { on := 10, ground := .textOnly .lateStores }, { on := 11, ground := .textOnly .lateStores }, { on := 12, ground := .textOnly .lateStores }, { on := 13, ground := .phase }, { on := 14, ground := .phase }, { on := 15, ground := .phase }], guard := none }
def ops17O17 (ps : String) : Oper := { dst := none, op := .store 34 (.tmp 21) (.tmp 127), type := 0, pos := ps, after := #[{ on := 14, ground := .data }, { on := 10, ground := .data }, { on := 16, ground := .chain }, { on := 0, ground := .phase }, { on := 1, ground := .phase }, { on := 2, ground := .phase }, { on := 3, ground := .phase }, { on := 4, ground := .phase }, { on := 5, ground := .phase }, { on := 6, ground := .phase }, { on := 7, ground := .phase }, { on := 8, ground := .phase }, { on := 9, ground := .phase }, { on := 10, ground := .phase }, { on := 11, ground := .textOnly .lateStores }, { on := 12, ground := .textOnly .lateStores }, { on := 13, ground := .phase }, { on := 14, ground := .phase }, { on := 15, ground := .phase }, { on := 16, ground := .phase }], guard := none }
def ops17O18 (ps : String) : Oper := { dst := some 22, op := .assign (.tmp 128), type := 4, pos := ps, after := #[{ on := 11, ground := .data }, { on := 17, ground := .chain }, { on := 0, ground := .phase }, { on := 1, ground := .phase }, { on := 2, ground := .phase }, { on := 3, ground := .phase }, { on := 4, ground := .phase }, { on := 5, ground := .phase }, { on := 6, ground := .phase }, { on := 7, ground := .phase }, { on := 8, ground := .phase }, { on := 9, ground := .phase }, { on := 10, ground := .phase }, { on := 11, ground := .phase }, { on := 12, ground := .textOnly .lateStores }, { on := 13, ground := .phase }, { on := 14, ground := .phase }, { on := 15, ground := .phase }, { on := 16, ground := .phase }, { on := 17, ground := .phase }], guard := none }
def ops17O19 (ps : String) : Oper := { dst := some 23, op := .assign (.tmp 129), type := 28, pos := ps, after := #[{ on := 12, ground := .data }, { on := 18, ground := .chain }, { on := 0, ground := .phase }, { on := 1, ground := .phase }, { on := 2, ground := .phase }, { on := 3, ground := .phase }, { on := 4, ground := .phase }, { on := 5, ground := .phase }, { on := 6, ground := .phase }, { on := 7, ground := .phase }, { on := 8, ground := .phase }, { on := 9, ground := .phase }, { on := 10, ground := .phase }, { on := 11, ground := .phase }, { on := 12, ground := .phase }, { on := 13, ground := .phase }, { on := 14, ground := .phase }, { on := 15, ground := .phase }, { on := 16, ground := .phase }, { on := 17, ground := .phase }, { on := 18, ground := .phase }], guard := none }
def ops17 (ps : String) : Array Oper := #[ops17O0 ps, ops17O1 ps, ops17O2 ps, ops17O3 ps, ops17O4 ps, ops17O5 ps, ops17O6 ps, ops17O7 ps, ops17O8 ps, ops17O9 ps, ops17O10 ps, ops17O11 ps, ops17O12 ps, ops17O13 ps, ops17O14 ps, ops17O15 ps, ops17O16 ps, ops17O17 ps, ops17O18 ps, ops17O19 ps]
theorem ops17_0 (ps : String) : (ops17 ps)[0]? = some (ops17O0 ps) := rfl
theorem ops17_1 (ps : String) : (ops17 ps)[1]? = some (ops17O1 ps) := rfl
theorem ops17_2 (ps : String) : (ops17 ps)[2]? = some (ops17O2 ps) := rfl
theorem ops17_3 (ps : String) : (ops17 ps)[3]? = some (ops17O3 ps) := rfl
theorem ops17_4 (ps : String) : (ops17 ps)[4]? = some (ops17O4 ps) := rfl
theorem ops17_5 (ps : String) : (ops17 ps)[5]? = some (ops17O5 ps) := rfl
theorem ops17_6 (ps : String) : (ops17 ps)[6]? = some (ops17O6 ps) := rfl
theorem ops17_7 (ps : String) : (ops17 ps)[7]? = some (ops17O7 ps) := rfl
theorem ops17_8 (ps : String) : (ops17 ps)[8]? = some (ops17O8 ps) := rfl
theorem ops17_9 (ps : String) : (ops17 ps)[9]? = some (ops17O9 ps) := rfl
theorem ops17_10 (ps : String) : (ops17 ps)[10]? = some (ops17O10 ps) := rfl
theorem ops17_11 (ps : String) : (ops17 ps)[11]? = some (ops17O11 ps) := rfl
theorem ops17_12 (ps : String) : (ops17 ps)[12]? = some (ops17O12 ps) := rfl
theorem ops17_13 (ps : String) : (ops17 ps)[13]? = some (ops17O13 ps) := rfl
theorem ops17_14 (ps : String) : (ops17 ps)[14]? = some (ops17O14 ps) := rfl
theorem ops17_15 (ps : String) : (ops17 ps)[15]? = some (ops17O15 ps) := rfl
theorem ops17_16 (ps : String) : (ops17 ps)[16]? = some (ops17O16 ps) := rfl
theorem ops17_17 (ps : String) : (ops17 ps)[17]? = some (ops17O17 ps) := rfl
theorem ops17_18 (ps : String) : (ops17 ps)[18]? = some (ops17O18 ps) := rfl
theorem ops17_19 (ps : String) : (ops17 ps)[19]? = some (ops17O19 ps) := rfl
def dst17 : Nat → Option Tmp
  | 0 => some 118
  | 1 => some 119
  | 2 => some 120
  | 3 => some 121
  | 4 => some 122
  | 5 => some 123
  | 6 => some 124
  | 7 => some 117
  | 8 => some 125
  | 9 => some 126
  | 10 => some 127
  | 11 => some 128
  | 12 => some 129
  | 13 => some 19
  | 14 => some 21
  | 15 => none
  | 16 => some 20
  | 17 => none
  | 18 => some 22
  | 19 => some 23
  | _ => none
def dp17 : Nat → List Nat
  | 7 => [6]
  | 8 => [7]
  | 9 => [7]
  | 10 => [7]
  | 11 => [7]
  | 12 => [7]
  | 15 => [13, 8]
  | 16 => [9]
  | 18 => [11]
  | 19 => [12]
  | _ => []
/-- What each operation leaves. -/
def left17 (W0 : World) (r : Pl.Rv) (h : Hd) (rb rf rl rc i : Nat) (y m : Int) : Nat → (Nat → Value) → World → Prop
  | 0, v, _ => v 0 = .agg #[.int .i64 r.s.n, .slice h.ua r.s.u.length h.uc, .slice h.la h.es.length h.lc, .int .i64 r.cap, .int .i64 r.shift, .int .i64 r.edge, .int .u32 r.recent, .bool r.stamps, .bool r.sacks, .int .i64 r.fin, .bool r.dn, .slice h.fa r.first.length h.fc, .int .u32 r.irs, .int .u32 r.own, .bool r.stamp]
  | 1, v, _ => v 1 = .slice (some ⟨rb, rf, none⟩) rl rc
  | 2, v, _ => v 2 = .int .i64 (i : Int)
  | 3, v, _ => v 3 = .pointer (some ⟨rb, rf + i, none⟩)
  | 4, v, _ => v 4 = .int .i64 y
  | 5, v, _ => v 5 = .int .i64 m
  | 6, v, w => ∃ (k : Hd) (da : Option Addr) (dc : Nat) (ks : Hs), v 6 = .tuple #[.agg #[.int .i64 (Pl.readR r m).s.n, .slice k.ua (Pl.readR r m).s.u.length k.uc, .slice k.la k.es.length k.lc, .int .i64 (Pl.readR r m).cap, .int .i64 (Pl.readR r m).shift, .int .i64 (Pl.readR r m).edge, .int .u32 (Pl.readR r m).recent, .bool (Pl.readR r m).stamps, .bool (Pl.readR r m).sacks, .int .i64 (Pl.readR r m).fin, .bool (Pl.readR r m).dn, .slice k.fa (Pl.readR r m).first.length k.fc, .int .u32 (Pl.readR r m).irs, .int .u32 (Pl.readR r m).own, .bool (Pl.readR r m).stamp], .slice da (Pl.rdN r m) dc, .agg #[.int .i64 (readS r m).sp, .int .i64 (readS r m).dp, .int .u32 (readS r m).sq, .int .u32 (readS r m).ak, .int .i64 (readS r m).fl, .int .i64 (readS r m).wn, .int .i64 (readS r m).ur, .int .i64 (readS r m).ms, .int .i64 (readS r m).sc, .bool (readS r m).so, .bool (readS r m).st, .int .u32 (readS r m).va, .int .u32 (readS r m).ec, .slice ks.ka (readS r m).sk.length ks.kc, .slice ks.da (readS r m).da.length ks.dc], .bool (Pl.rdB r m), .int .i64 0] ∧ RvOwn w W0.heap.size (Pl.readR r m) k ∧ SlAt w da dc (r.s.u.take (Pl.rdN r m))
  | 7, v, _ => v 7 = v 6 ∧ ∃ (k : Hd) (da : Option Addr) (dc : Nat) (ks : Hs), v 7 = .tuple #[.agg #[.int .i64 (Pl.readR r m).s.n, .slice k.ua (Pl.readR r m).s.u.length k.uc, .slice k.la k.es.length k.lc, .int .i64 (Pl.readR r m).cap, .int .i64 (Pl.readR r m).shift, .int .i64 (Pl.readR r m).edge, .int .u32 (Pl.readR r m).recent, .bool (Pl.readR r m).stamps, .bool (Pl.readR r m).sacks, .int .i64 (Pl.readR r m).fin, .bool (Pl.readR r m).dn, .slice k.fa (Pl.readR r m).first.length k.fc, .int .u32 (Pl.readR r m).irs, .int .u32 (Pl.readR r m).own, .bool (Pl.readR r m).stamp], .slice da (Pl.rdN r m) dc, .agg #[.int .i64 (readS r m).sp, .int .i64 (readS r m).dp, .int .u32 (readS r m).sq, .int .u32 (readS r m).ak, .int .i64 (readS r m).fl, .int .i64 (readS r m).wn, .int .i64 (readS r m).ur, .int .i64 (readS r m).ms, .int .i64 (readS r m).sc, .bool (readS r m).so, .bool (readS r m).st, .int .u32 (readS r m).va, .int .u32 (readS r m).ec, .slice ks.ka (readS r m).sk.length ks.kc, .slice ks.da (readS r m).da.length ks.dc], .bool (Pl.rdB r m), .int .i64 0]
  | 8, v, _ => ∃ b c d e, v 7 = .tuple #[v 8, b, c, d, e]
  | 9, v, _ => ∃ b c d e, v 7 = .tuple #[b, v 9, c, d, e]
  | 10, v, _ => ∃ b c d e, v 7 = .tuple #[b, c, v 10, d, e]
  | 11, v, _ => ∃ b c d e, v 7 = .tuple #[b, c, d, v 11, e]
  | 12, v, _ => ∃ b c d e, v 7 = .tuple #[b, c, d, e, v 12]
  | 13, v, w => ∃ g cs, v 13 = .pointer (some ⟨g, 0, none⟩) ∧ W0.heap.size ≤ g ∧ cs.length = 15 ∧ Box w g 27 cs ∧ NoB cs
  | 14, v, w => ∃ g cs, v 14 = .pointer (some ⟨g, 0, none⟩) ∧ W0.heap.size ≤ g ∧ cs.length = 15 ∧ Box w g 34 cs ∧ NoB cs
  | 15, v, w => ∃ (g : Nat) (k : Hd), v 13 = .pointer (some ⟨g, 0, none⟩) ∧ v 8 = .agg #[.int .i64 (Pl.readR r m).s.n, .slice k.ua (Pl.readR r m).s.u.length k.uc, .slice k.la k.es.length k.lc, .int .i64 (Pl.readR r m).cap, .int .i64 (Pl.readR r m).shift, .int .i64 (Pl.readR r m).edge, .int .u32 (Pl.readR r m).recent, .bool (Pl.readR r m).stamps, .bool (Pl.readR r m).sacks, .int .i64 (Pl.readR r m).fin, .bool (Pl.readR r m).dn, .slice k.fa (Pl.readR r m).first.length k.fc, .int .u32 (Pl.readR r m).irs, .int .u32 (Pl.readR r m).own, .bool (Pl.readR r m).stamp] ∧ Box w g 27 [.int .i64 (Pl.readR r m).s.n, .slice k.ua (Pl.readR r m).s.u.length k.uc, .slice k.la k.es.length k.lc, .int .i64 (Pl.readR r m).cap, .int .i64 (Pl.readR r m).shift, .int .i64 (Pl.readR r m).edge, .int .u32 (Pl.readR r m).recent, .bool (Pl.readR r m).stamps, .bool (Pl.readR r m).sacks, .int .i64 (Pl.readR r m).fin, .bool (Pl.readR r m).dn, .slice k.fa (Pl.readR r m).first.length k.fc, .int .u32 (Pl.readR r m).irs, .int .u32 (Pl.readR r m).own, .bool (Pl.readR r m).stamp]
  | 16, v, _ => v 16 = v 9
  | 17, _, _ => True
  | 18, v, _ => v 18 = v 11
  | 19, v, _ => v 19 = v 12
  | _, _, _ => True
theorem left17_loc {W0 : World} {r : Pl.Rv} {h : Hd} {rb rf rl rc i0 : Nat} {y m : Int} : ∀ (i : Nat) (v v' : Nat → Value) (w : World), i < 20 → v i = v' i → (∀ q ∈ dp17 i, v q = v' q) → left17 W0 r h rb rf rl rc i0 y m i v w → left17 W0 r h rb rf rl rc i0 y m i v' w
  | 0, v, v', w, _, e, _, h => e.symm.trans h
  | 1, v, v', w, _, e, _, h => e.symm.trans h
  | 2, v, v', w, _, e, _, h => e.symm.trans h
  | 3, v, v', w, _, e, _, h => e.symm.trans h
  | 4, v, v', w, _, e, _, h => e.symm.trans h
  | 5, v, v', w, _, e, _, h => e.symm.trans h
  | 6, v, v', w, _, e, _, ⟨k, da, dc, ks, h1, h2⟩ => ⟨k, da, dc, ks, e.symm.trans h1, h2⟩
  | 7, v, v', w, _, e, d, ⟨h, k, da, dc, ks, h2⟩ => ⟨by
    have d6 := d 6 (by simp [dp17])
    rw [← e, ← d6]; exact h, k, da, dc, ks, e.symm.trans h2⟩
  | 8, v, v', w, _, e, d, ⟨b, c, f, g, h⟩ => ⟨b, c, f, g, by
    have d7 := d 7 (by simp [dp17])
    rw [← e, ← d7]; exact h⟩
  | 9, v, v', w, _, e, d, ⟨b, c, f, g, h⟩ => ⟨b, c, f, g, by
    have d7 := d 7 (by simp [dp17])
    rw [← e, ← d7]; exact h⟩
  | 10, v, v', w, _, e, d, ⟨b, c, f, g, h⟩ => ⟨b, c, f, g, by
    have d7 := d 7 (by simp [dp17])
    rw [← e, ← d7]; exact h⟩
  | 11, v, v', w, _, e, d, ⟨b, c, f, g, h⟩ => ⟨b, c, f, g, by
    have d7 := d 7 (by simp [dp17])
    rw [← e, ← d7]; exact h⟩
  | 12, v, v', w, _, e, d, ⟨b, c, f, g, h⟩ => ⟨b, c, f, g, by
    have d7 := d 7 (by simp [dp17])
    rw [← e, ← d7]; exact h⟩
  | 13, v, v', w, _, e, _, ⟨g, cs, h1, h2⟩ => ⟨g, cs, e.symm.trans h1, h2⟩
  | 14, v, v', w, _, e, _, ⟨g, cs, h1, h2⟩ => ⟨g, cs, e.symm.trans h1, h2⟩
  | 15, v, v', w, _, e, d, ⟨g, k, h1, h2, h3⟩ => ⟨g, k, (d 13 (by simp [dp17])).symm.trans h1, (d 8 (by simp [dp17])).symm.trans h2, h3⟩
  | 16, v, v', w, _, e, d, h => by
    have d1 := d 9 (by simp [dp17])
    show v' 16 = v' 9
    rw [← e, ← d1]; exact h
  | 17, _, _, _, _, _, _, _ => trivial
  | 18, v, v', w, _, e, d, h => by
    have d1 := d 11 (by simp [dp17])
    show v' 18 = v' 11
    rw [← e, ← d1]; exact h
  | 19, v, v', w, _, e, d, h => by
    have d1 := d 12 (by simp [dp17])
    show v' 19 = v' 12
    rw [← e, ← d1]; exact h
  | i + 20, _, _, _, hi, _, _, _ => absurd hi (by omega)
theorem left17_later {W0 : World} {r : Pl.Rv} {h : Hd} {rb rf rl rc i0 : Nat} {y m : Int} {w w' : World} (hb : Below w.heap.size w w') : ∀ (i : Nat) (v : Nat → Value), i < 20 → left17 W0 r h rb rf rl rc i0 y m i v w → left17 W0 r h rb rf rl rc i0 y m i v w'
  | 0, v, _, h => h
  | 1, v, _, h => h
  | 2, v, _, h => h
  | 3, v, _, h => h
  | 4, v, _, h => h
  | 5, v, _, h => h
  | 6, v, _, ⟨k, da, dc, ks, h1, h2, h3⟩ => ⟨k, da, dc, ks, h1, h2.later hb, h3.later hb⟩
  | 7, v, _, h => h
  | 8, v, _, h => h
  | 9, v, _, h => h
  | 10, v, _, h => h
  | 11, v, _, h => h
  | 12, v, _, h => h
  | 13, v, _, ⟨g, cs, h1, h2, h3, h4, h5⟩ => ⟨g, cs, h1, h2, h3, h4.later hb, h5⟩
  | 14, v, _, ⟨g, cs, h1, h2, h3, h4, h5⟩ => ⟨g, cs, h1, h2, h3, h4.later hb, h5⟩
  | 15, v, _, ⟨g, k, h1, h2, h3⟩ => ⟨g, k, h1, h2, h3.later hb⟩
  | 16, v, _, h => h
  | 17, v, _, h => h
  | 18, v, _, h => h
  | 19, v, _, h => h
  | i + 20, _, hi, _ => absurd hi (by omega)
theorem left17_storeR {W0 : World} {r : Pl.Rv} {h : Hd} {rb rf rl rc i0 : Nat} {y m : Int} {w : World} {p : Nat} {ds vs : List Value} (hb : Box w p 27 ds) (hd : ds.length = 15) (hn : NoB ds) (hl : vs.length = 15) (hv : NoB vs) : ∀ (i : Nat) (v : Nat → Value), i < 20 → i ≠ 15 → left17 W0 r h rb rf rl rc i0 y m i v w → left17 W0 r h rb rf rl rc i0 y m i v (setAll w p 0 vs)
  | 0, v, _, _, h => h
  | 1, v, _, _, h => h
  | 2, v, _, _, h => h
  | 3, v, _, _, h => h
  | 4, v, _, _, h => h
  | 5, v, _, _, h => h
  | 6, v, _, _, ⟨k, da, dc, ks, h1, h2, h3⟩ => ⟨k, da, dc, ks, h1, h2.besideR hb 0 vs, h3.besideB hb hn 0 vs⟩
  | 7, v, _, _, h => h
  | 8, v, _, _, h => h
  | 9, v, _, _, h => h
  | 10, v, _, _, h => h
  | 11, v, _, _, h => h
  | 12, v, _, _, h => h
  | 13, v, _, _, ⟨g, cs, h1, h2, h3, h4, h5⟩ => by
    by_cases e : g = p
    · subst e; exact ⟨g, vs, h1, h2, hl, hb.put vs (by omega), hv⟩
    · exact ⟨g, cs, h1, h2, h3, h4.putAside p 0 vs e, h5⟩
  | 14, v, _, _, ⟨g, cs, h1, h2, h3, h4, h5⟩ => ⟨g, cs, h1, h2, h3, h4.putAside p 0 vs (h4.ne hb (by decide)), h5⟩
  | 15, v, _, hne, _ => absurd rfl hne
  | 16, v, _, _, h => h
  | 17, v, _, _, h => h
  | 18, v, _, _, h => h
  | 19, v, _, _, h => h
  | i + 20, _, hi, _, _ => absurd hi (by omega)
theorem left17_storeS {W0 : World} {r : Pl.Rv} {h : Hd} {rb rf rl rc i0 : Nat} {y m : Int} {w : World} {p : Nat} {ds vs : List Value} (hb : Box w p 34 ds) (hd : ds.length = 15) (hn : NoB ds) (hl : vs.length = 15) (hv : NoB vs) : ∀ (i : Nat) (v : Nat → Value), i < 20 → left17 W0 r h rb rf rl rc i0 y m i v w → left17 W0 r h rb rf rl rc i0 y m i v (setAll w p 0 vs)
  | 0, v, _, h => h
  | 1, v, _, h => h
  | 2, v, _, h => h
  | 3, v, _, h => h
  | 4, v, _, h => h
  | 5, v, _, h => h
  | 6, v, _, ⟨k, da, dc, ks, h1, h2, h3⟩ => ⟨k, da, dc, ks, h1, h2.besideS hb 0 vs, h3.besideB hb hn 0 vs⟩
  | 7, v, _, h => h
  | 8, v, _, h => h
  | 9, v, _, h => h
  | 10, v, _, h => h
  | 11, v, _, h => h
  | 12, v, _, h => h
  | 13, v, _, ⟨g, cs, h1, h2, h3, h4, h5⟩ => ⟨g, cs, h1, h2, h3, h4.putAside p 0 vs (h4.ne hb (by decide)), h5⟩
  | 14, v, _, ⟨g, cs, h1, h2, h3, h4, h5⟩ => by
    by_cases e : g = p
    · subst e; exact ⟨g, vs, h1, h2, hl, hb.put vs (by omega), hv⟩
    · exact ⟨g, cs, h1, h2, h3, h4.putAside p 0 vs e, h5⟩
  | 15, v, _, ⟨g, k, h1, h2, h3⟩ => ⟨g, k, h1, h2, h3.putAside p 0 vs (h3.ne hb (by decide))⟩
  | 16, v, _, h => h
  | 17, v, _, h => h
  | 18, v, _, h => h
  | 19, v, _, h => h
  | i + 20, _, hi, _ => absurd hi (by omega)

set_option maxRecDepth 100000 in
set_option maxHeartbeats 4000000 in
theorem reg17 {ps : String} {Q : Exit → Act → World → Prop} {a0 : Act} {W0 : World} (sz : a0.tmps.size = 203) {r : Pl.Rv} {h : Hd} {rb rf rl rc i0 : Nat} {y m : Int} {g9 : Nat}
    (e9 : a0.eval (.tmp 9) = .pointer (some ⟨g9, 0, none⟩)) (e3 : a0.eval (.tmp 3) = .slice (some ⟨rb, rf, none⟩) rl rc) (e12 : a0.eval (.tmp 12) = .int .i64 (i0 : Int))
    (hb9 : Box W0 g9 27 [.int .i64 r.s.n, .slice h.ua r.s.u.length h.uc, .slice h.la h.es.length h.lc, .int .i64 r.cap, .int .i64 r.shift, .int .i64 r.edge, .int .u32 r.recent, .bool r.stamps, .bool r.sacks, .int .i64 r.fin, .bool r.dn, .slice h.fa r.first.length h.fc, .int .u32 r.irs, .int .u32 r.own, .bool r.stamp]) (hr : RvAt W0 r h) (hok : r.Ok) (hil : (i0 : Int) < (rl : Int)) (hc : W0.cell? ⟨rb, rf + i0, none⟩ = some (.int .i64 y)) (hm : bits BinOp.and IntKind.i64 y 31 = m)
    (hfin : ∀ (v : Nat → Value) (W' : World) (k : Hd) (da : Option Addr) (dc g : Nat), RvOwn W' W0.heap.size (Pl.readR r m) k → SlAt W' da dc (r.s.u.take (Pl.rdN r m)) → Box W' g 27 [.int .i64 (Pl.readR r m).s.n, .slice k.ua (Pl.readR r m).s.u.length k.uc, .slice k.la k.es.length k.lc, .int .i64 (Pl.readR r m).cap, .int .i64 (Pl.readR r m).shift, .int .i64 (Pl.readR r m).edge, .int .u32 (Pl.readR r m).recent, .bool (Pl.readR r m).stamps, .bool (Pl.readR r m).sacks, .int .i64 (Pl.readR r m).fin, .bool (Pl.readR r m).dn, .slice k.fa (Pl.readR r m).first.length k.fc, .int .u32 (Pl.readR r m).irs, .int .u32 (Pl.readR r m).own, .bool (Pl.readR r m).stamp] → W0.heap.size ≤ g → Below W0.heap.size W0 W' →
      v 13 = .pointer (some ⟨g, 0, none⟩) → v 16 = .slice da (Pl.rdN r m) dc → v 19 = .int .i64 0 → Q .normal ((((((((((((((((((a0.put (some 118) (v 0)).put (some 119) (v 1)).put (some 120) (v 2)).put (some 121) (v 3)).put (some 122) (v 4)).put (some 123) (v 5)).put (some 124) (v 6)).put (some 117) (v 7)).put (some 125) (v 8)).put (some 126) (v 9)).put (some 127) (v 10)).put (some 128) (v 11)).put (some 129) (v 12)).put (some 19) (v 13)).put (some 21) (v 14)).put (some 20) (v 16)).put (some 22) (v 18)).put (some 23) (v 19)) W') :
    (Code.region 17 (ops17 ps) true).wp Try.prog Q a0 W0 := by
  refine wp_region_slots (by kernel_rfl) 20 rfl dst17 ?_ (by decide) (left17 W0 r h rb rf rl rc i0 y m) (fun w => Below W0.heap.size W0 w) dp17 ?_ left17_loc (Below.drew (Below.refl _ _)) ?_ (ends_of rfl ?_) ?_
  · intro j t hj ht
    have : ∀ j, j < 20 → (dst17 j).all (· < 203) = true := by decide
    have := this j hj
    rw [ht] at this
    rw [sz]
    simpa using this
  · intro i o ho q hq
    have := each_of (ops := ops17 ps) (f := fun o i => (dp17 i).all fun m => o.after.toList.any fun e => Region.binds .any e && e.on == m) (by rfl) i o ho
    simp only [List.all_eq_true, List.any_eq_true, Bool.and_eq_true, beq_iff_eq] at this
    obtain ⟨e, he, hbn, hon⟩ := this q hq
    exact ⟨e, by simpa using he, hbn, hon⟩
  · intro i o ho D v a w kn hD hnD K hK
    have hi20 : i < 20 := (Array.getElem?_eq_some_iff.1 ho).1
    have done : ∀ j, (o.after.toList.any fun e => Region.binds .any e && e.on == j) = true → D j := fun j hj => by
      simp only [List.any_eq_true, Bool.and_eq_true, beq_iff_eq] at hj
      obtain ⟨e, he, hbn, rfl⟩ := hj
      exact hD e (by simpa using he) hbn
    match i, hi20, ho with
    | 0, _, ho =>
    obtain rfl := Option.some.inj (ho.symm.trans (ops17_0 ps))
    refine op_val (ops17_0 ps) rfl (run_loadR rfl (by rw [kn.els 9 (by decide)]; exact e9) r h w (hb9.later kn.all)) (hK _ _ kn.all (upd_at ..) (fun _ _ h => h))
    | 1, _, ho =>
    obtain rfl := Option.some.inj (ho.symm.trans (ops17_1 ps))
    refine op_val (ops17_1 ps) rfl (run_move rfl w) (hK _ _ kn.all ((upd_at ..).trans (by rw [kn.els 3 (by decide)]; exact e3)) (fun _ _ h => h))
    | 2, _, ho =>
    obtain rfl := Option.some.inj (ho.symm.trans (ops17_2 ps))
    refine op_val (ops17_2 ps) rfl (run_move rfl w) (hK _ _ kn.all ((upd_at ..).trans (by rw [kn.els 12 (by decide)]; exact e12)) (fun _ _ h => h))
    | 3, _, ho =>
    obtain rfl := Option.some.inj (ho.symm.trans (ops17_3 ps))
    have q1 := (kn.slot 1 119 (done 1 (by rfl)) rfl).trans (kn.fact 1 (done 1 (by rfl)))
    have q2 := (kn.slot 2 120 (done 2 (by rfl)) rfl).trans (kn.fact 2 (done 2 (by rfl)))
    refine op_val (ops17_3 ps) rfl (run_index rfl q1 q2 hil w) (hK _ _ kn.all (upd_at ..) (fun _ _ h => h))
    | 4, _, ho =>
    obtain rfl := Option.some.inj (ho.symm.trans (ops17_4 ps))
    have q3 := (kn.slot 3 121 (done 3 (by rfl)) rfl).trans (kn.fact 3 (done 3 (by rfl)))
    have hlt := lt_of_cell hc
    refine op_val (ops17_4 ps) rfl (run_loadI rfl q3 w ((kn.all.cell (p := ⟨rb, rf + i0, none⟩) hlt).trans hc)) (hK _ _ kn.all (upd_at ..) (fun _ _ h => h))
    | 5, _, ho =>
    obtain rfl := Option.some.inj (ho.symm.trans (ops17_5 ps))
    have q4 := (kn.slot 4 122 (done 4 (by rfl)) rfl).trans (kn.fact 4 (done 4 (by rfl)))
    refine op_val (ops17_5 ps) rfl (run_and rfl q4 rfl hm w) (hK _ _ kn.all (upd_at ..) (fun _ _ h => h))
    | 6, _, ho =>
    obtain rfl := Option.some.inj (ho.symm.trans (ops17_6 ps))
    have q0 := (kn.slot 0 118 (done 0 (by rfl)) rfl).trans (kn.fact 0 (done 0 (by rfl)))
    have q5 := (kn.slot 5 123 (done 5 (by rfl)) rfl).trans (kn.fact 5 (done 5 (by rfl)))
    refine op_enter (ops17_6 ps) rfl (f := 12) (args := #[.agg #[.int .i64 r.s.n, .slice h.ua r.s.u.length h.uc, .slice h.la h.es.length h.lc, .int .i64 r.cap, .int .i64 r.shift, .int .i64 r.edge, .int .u32 r.recent, .bool r.stamps, .bool r.sacks, .int .i64 r.fin, .bool r.dn, .slice h.fa r.first.length h.fc, .int .u32 r.irs, .int .u32 r.own, .bool r.stamp], .int .i64 m]) ?_ ?_
    · rw [run_call rfl enter_read]
      simp only [List.map_toArray, List.map_cons, List.map_nil, q0, q5]
    · refine (recvRead_ok r h m w (hr.later kn.all) hok).mono ?_
      rintro e w' ⟨k, da, dc, ks, rfl, hO, hS, _, hB⟩
      exact ⟨_, rfl, hK _ _ (Below.on kn.all hB) ⟨k, da, dc, ks, upd_at .., hO.mono (Nat.le_trans kn.all.size (by omega)), hS⟩ (fun j hj hF => left17_later hB j v (kn.lt j hj) hF)⟩
    | 7, _, ho =>
    obtain rfl := Option.some.inj (ho.symm.trans (ops17_7 ps))
    have q6 := kn.slot 6 124 (done 6 (by rfl)) rfl
    obtain ⟨k, da, dc, ks, h6, _⟩ := kn.fact 6 (done 6 (by rfl))
    refine op_val (ops17_7 ps) rfl (run_move rfl w) (hK _ _ kn.all ⟨(upd_at ..).trans (q6.trans (upd_ne v _ (by decide)).symm), k, da, dc, ks, (upd_at ..).trans (q6.trans h6)⟩ (fun _ _ h => h))
    | 8, _, ho =>
    obtain rfl := Option.some.inj (ho.symm.trans (ops17_8 ps))
    obtain ⟨_, k, da, dc, ks, h6⟩ := kn.fact 7 (done 7 (by rfl))
    have q7 := (kn.slot 7 117 (done 7 (by rfl)) rfl).trans h6
    refine op_val (ops17_8 ps) rfl (run_extract rfl q7 rfl w) (hK _ _ kn.all ⟨_, _, _, _, by rw [upd_ne v _ (by decide), upd_at]; exact h6⟩ (fun _ _ h => h))
    | 9, _, ho =>
    obtain rfl := Option.some.inj (ho.symm.trans (ops17_9 ps))
    obtain ⟨_, k, da, dc, ks, h6⟩ := kn.fact 7 (done 7 (by rfl))
    have q7 := (kn.slot 7 117 (done 7 (by rfl)) rfl).trans h6
    refine op_val (ops17_9 ps) rfl (run_extract rfl q7 rfl w) (hK _ _ kn.all ⟨_, _, _, _, by rw [upd_ne v _ (by decide), upd_at]; exact h6⟩ (fun _ _ h => h))
    | 10, _, ho =>
    obtain rfl := Option.some.inj (ho.symm.trans (ops17_10 ps))
    obtain ⟨_, k, da, dc, ks, h6⟩ := kn.fact 7 (done 7 (by rfl))
    have q7 := (kn.slot 7 117 (done 7 (by rfl)) rfl).trans h6
    refine op_val (ops17_10 ps) rfl (run_extract rfl q7 rfl w) (hK _ _ kn.all ⟨_, _, _, _, by rw [upd_ne v _ (by decide), upd_at]; exact h6⟩ (fun _ _ h => h))
    | 11, _, ho =>
    obtain rfl := Option.some.inj (ho.symm.trans (ops17_11 ps))
    obtain ⟨_, k, da, dc, ks, h6⟩ := kn.fact 7 (done 7 (by rfl))
    have q7 := (kn.slot 7 117 (done 7 (by rfl)) rfl).trans h6
    refine op_val (ops17_11 ps) rfl (run_extract rfl q7 rfl w) (hK _ _ kn.all ⟨_, _, _, _, by rw [upd_ne v _ (by decide), upd_at]; exact h6⟩ (fun _ _ h => h))
    | 12, _, ho =>
    obtain rfl := Option.some.inj (ho.symm.trans (ops17_12 ps))
    obtain ⟨_, k, da, dc, ks, h6⟩ := kn.fact 7 (done 7 (by rfl))
    have q7 := (kn.slot 7 117 (done 7 (by rfl)) rfl).trans h6
    refine op_val (ops17_12 ps) rfl (run_extract rfl q7 rfl w) (hK _ _ kn.all ⟨_, _, _, _, by rw [upd_ne v _ (by decide), upd_at]; exact h6⟩ (fun _ _ h => h))
    | 13, _, ho =>
    obtain rfl := Option.some.inj (ho.symm.trans (ops17_13 ps))
    refine op_val (ops17_13 ps) rfl (run_allocR rfl w) (hK _ _ (below_more kn.all _) ⟨w.heap.size, [.int .i64 0, .slice none 0 0, .slice none 0 0, .int .i64 0, .int .i64 0, .int .i64 0, .int .u32 0, .bool false, .bool false, .int .i64 0, .bool false, .slice none 0 0, .int .u32 0, .int .u32 0, .bool false], upd_at .., kn.all.size, rfl, Box.new w 27 [.int .i64 0, .slice none 0 0, .slice none 0 0, .int .i64 0, .int .i64 0, .int .i64 0, .int .u32 0, .bool false, .bool false, .int .i64 0, .bool false, .slice none 0 0, .int .u32 0, .int .u32 0, .bool false], noB_ZR⟩ (fun j hj hF => left17_later (below_more (Below.refl _ _) _) j v (kn.lt j hj) hF))
    | 14, _, ho =>
    obtain rfl := Option.some.inj (ho.symm.trans (ops17_14 ps))
    refine op_val (ops17_14 ps) rfl (run_allocS rfl w) (hK _ _ (below_more kn.all _) ⟨w.heap.size, [.int .i64 0, .int .i64 0, .int .u32 0, .int .u32 0, .int .i64 0, .int .i64 0, .int .i64 0, .int .i64 0, .int .i64 0, .bool false, .bool false, .int .u32 0, .int .u32 0, .slice none 0 0, .slice none 0 0], upd_at .., kn.all.size, rfl, Box.new w 34 [.int .i64 0, .int .i64 0, .int .u32 0, .int .u32 0, .int .i64 0, .int .i64 0, .int .i64 0, .int .i64 0, .int .i64 0, .bool false, .bool false, .int .u32 0, .int .u32 0, .slice none 0 0, .slice none 0 0], noB_ZS⟩ (fun j hj hF => left17_later (below_more (Below.refl _ _) _) j v (kn.lt j hj) hF))
    | 15, _, ho =>
    obtain rfl := Option.some.inj (ho.symm.trans (ops17_15 ps))
    obtain ⟨g, cs, h13, hg, hcl, hbx, hnb⟩ := kn.fact 13 (done 13 (by rfl))
    have q13 := (kn.slot 13 19 (done 13 (by rfl)) rfl).trans h13
    obtain ⟨_, k, da, dc, ks, h6⟩ := kn.fact 7 (done 7 (by rfl))
    obtain ⟨b, c, d, f, h8⟩ := kn.fact 8 (done 8 (by rfl))
    rw [h6] at h8
    have h8' : v 8 = .agg #[.int .i64 (Pl.readR r m).s.n, .slice k.ua (Pl.readR r m).s.u.length k.uc, .slice k.la k.es.length k.lc, .int .i64 (Pl.readR r m).cap, .int .i64 (Pl.readR r m).shift, .int .i64 (Pl.readR r m).edge, .int .u32 (Pl.readR r m).recent, .bool (Pl.readR r m).stamps, .bool (Pl.readR r m).sacks, .int .i64 (Pl.readR r m).fin, .bool (Pl.readR r m).dn, .slice k.fa (Pl.readR r m).first.length k.fc, .int .u32 (Pl.readR r m).irs, .int .u32 (Pl.readR r m).own, .bool (Pl.readR r m).stamp] := by injection h8 with e; injection e with e; injection e with e1 _; exact e1.symm
    have q8 := (kn.slot 8 125 (done 8 (by rfl)) rfl).trans h8'
    refine op_if (ops17_15 ps) (fun K' hK' => wp_storeV rfl _ _ rfl (Pl.readR r m) k g hcl q13 q8 hbx rfl (fun u => hK' _ _ (hK u _ (setAll_below hg kn.all) ⟨g, k, by rw [upd_ne v _ (by decide)]; exact h13, by rw [upd_ne v _ (by decide)]; exact h8', hbx.put _ (by rw [hcl]; rfl)⟩ (fun j hj hF => left17_storeR hbx hcl hnb rfl (noB_R _ _) j v (kn.lt j hj) (fun e => hnD (e ▸ hj)) hF))))
    | 16, _, ho =>
    obtain rfl := Option.some.inj (ho.symm.trans (ops17_16 ps))
    have q := kn.slot 9 126 (done 9 (by rfl)) rfl
    refine op_val (ops17_16 ps) rfl (run_assign rfl w) (hK _ _ kn.all ((upd_at ..).trans (q.trans (upd_ne v _ (by decide)).symm)) (fun _ _ h => h))
    | 17, _, ho =>
    obtain rfl := Option.some.inj (ho.symm.trans (ops17_17 ps))
    obtain ⟨g, cs, h14, hg, hcl, hbx, hnb⟩ := kn.fact 14 (done 14 (by rfl))
    have q14 := (kn.slot 14 21 (done 14 (by rfl)) rfl).trans h14
    obtain ⟨_, k, da, dc, ks, h6⟩ := kn.fact 7 (done 7 (by rfl))
    obtain ⟨b, c, d, f, h9⟩ := kn.fact 10 (done 10 (by rfl))
    rw [h6] at h9
    have h9' : v 10 = .agg #[.int .i64 (readS r m).sp, .int .i64 (readS r m).dp, .int .u32 (readS r m).sq, .int .u32 (readS r m).ak, .int .i64 (readS r m).fl, .int .i64 (readS r m).wn, .int .i64 (readS r m).ur, .int .i64 (readS r m).ms, .int .i64 (readS r m).sc, .bool (readS r m).so, .bool (readS r m).st, .int .u32 (readS r m).va, .int .u32 (readS r m).ec, .slice ks.ka (readS r m).sk.length ks.kc, .slice ks.da (readS r m).da.length ks.dc] := by injection h9 with e; injection e with e; injection e with _ e1; injection e1 with _ e1; injection e1 with e1 _; exact e1.symm
    have q9 := (kn.slot 10 127 (done 10 (by rfl)) rfl).trans h9'
    refine op_if (ops17_17 ps) (fun K' hK' => wp_storeS rfl _ _ rfl (readS r m) ks g hcl q14 q9 hbx rfl (fun u => hK' _ _ (hK u _ (setAll_below hg kn.all) trivial (fun j hj hF => left17_storeS hbx hcl hnb rfl (noB_S _ _) j v (kn.lt j hj) hF))))
    | 18, _, ho =>
    obtain rfl := Option.some.inj (ho.symm.trans (ops17_18 ps))
    have q := kn.slot 11 128 (done 11 (by rfl)) rfl
    refine op_val (ops17_18 ps) rfl (run_assign rfl w) (hK _ _ kn.all ((upd_at ..).trans (q.trans (upd_ne v _ (by decide)).symm)) (fun _ _ h => h))
    | 19, _, ho =>
    obtain rfl := Option.some.inj (ho.symm.trans (ops17_19 ps))
    have q := kn.slot 12 129 (done 12 (by rfl)) rfl
    refine op_val (ops17_19 ps) rfl (run_assign rfl w) (hK _ _ kn.all ((upd_at ..).trans (q.trans (upd_ne v _ (by decide)).symm)) (fun _ _ h => h))
    | i + 20, hi20, _ => exact absurd hi20 (by omega)
  · intro i o ho e he hb
    have := each_of (ops := ops17 ps) (f := fun o i => o.after.toList.all fun e => !(Region.binds .any e) || decide (e.on < i)) (by rfl) i o ho
    rw [List.all_eq_true] at this
    have := this e (by simpa using he)
    rw [hb] at this
    simpa using this
  · intro v w hS hF
    obtain ⟨k, da, dc, ks, h6, hO, hSl⟩ := hF 6 (by omega)
    have h7 : v 7 = v 6 := (hF 7 (by omega)).1
    rw [h6] at h7
    obtain ⟨g, q, h13, h8, hbx⟩ := hF 15 (by omega)
    obtain ⟨g', cs, h13', hg, _, _, _⟩ := hF 13 (by omega)
    obtain ⟨b, c, d, f, h8b⟩ := hF 8 (by omega)
    obtain ⟨b1, c1, d1, f1, h9⟩ := hF 9 (by omega)
    obtain ⟨b2, c2, d2, f2, h12⟩ := hF 12 (by omega)
    have h16 : v 16 = v 9 := hF 16 (by omega)
    have h19 : v 19 = v 12 := hF 19 (by omega)
    rw [h7] at h8b h9 h12
    have e8 : v 8 = .agg #[.int .i64 (Pl.readR r m).s.n, .slice k.ua (Pl.readR r m).s.u.length k.uc, .slice k.la k.es.length k.lc, .int .i64 (Pl.readR r m).cap, .int .i64 (Pl.readR r m).shift, .int .i64 (Pl.readR r m).edge, .int .u32 (Pl.readR r m).recent, .bool (Pl.readR r m).stamps, .bool (Pl.readR r m).sacks, .int .i64 (Pl.readR r m).fin, .bool (Pl.readR r m).dn, .slice k.fa (Pl.readR r m).first.length k.fc, .int .u32 (Pl.readR r m).irs, .int .u32 (Pl.readR r m).own, .bool (Pl.readR r m).stamp] := by injection h8b with e; injection e with e; injection e with e _; exact e.symm
    have e9' : v 9 = .slice da (Pl.rdN r m) dc := by injection h9 with e; injection e with e; injection e with _ e; injection e with e _; exact e.symm
    have e12' : v 12 = .int .i64 0 := by injection h12 with e; injection e with e; injection e with _ e; injection e with _ e; injection e with _ e; injection e with _ e; injection e with e _; exact e.symm
    have hbx' : Box w g 27 [.int .i64 (Pl.readR r m).s.n, .slice k.ua (Pl.readR r m).s.u.length k.uc, .slice k.la k.es.length k.lc, .int .i64 (Pl.readR r m).cap, .int .i64 (Pl.readR r m).shift, .int .i64 (Pl.readR r m).edge, .int .u32 (Pl.readR r m).recent, .bool (Pl.readR r m).stamps, .bool (Pl.readR r m).sacks, .int .i64 (Pl.readR r m).fin, .bool (Pl.readR r m).dn, .slice k.fa (Pl.readR r m).first.length k.fc, .int .u32 (Pl.readR r m).irs, .int .u32 (Pl.readR r m).own, .bool (Pl.readR r m).stamp] := by
      have : ([.int .i64 (Pl.readR r m).s.n, .slice k.ua (Pl.readR r m).s.u.length k.uc, .slice k.la k.es.length k.lc, .int .i64 (Pl.readR r m).cap, .int .i64 (Pl.readR r m).shift, .int .i64 (Pl.readR r m).edge, .int .u32 (Pl.readR r m).recent, .bool (Pl.readR r m).stamps, .bool (Pl.readR r m).sacks, .int .i64 (Pl.readR r m).fin, .bool (Pl.readR r m).dn, .slice k.fa (Pl.readR r m).first.length k.fc, .int .u32 (Pl.readR r m).irs, .int .u32 (Pl.readR r m).own, .bool (Pl.readR r m).stamp] : List Value) = [.int .i64 (Pl.readR r m).s.n, .slice q.ua (Pl.readR r m).s.u.length q.uc, .slice q.la q.es.length q.lc, .int .i64 (Pl.readR r m).cap, .int .i64 (Pl.readR r m).shift, .int .i64 (Pl.readR r m).edge, .int .u32 (Pl.readR r m).recent, .bool (Pl.readR r m).stamps, .bool (Pl.readR r m).sacks, .int .i64 (Pl.readR r m).fin, .bool (Pl.readR r m).dn, .slice q.fa (Pl.readR r m).first.length q.fc, .int .u32 (Pl.readR r m).irs, .int .u32 (Pl.readR r m).own, .bool (Pl.readR r m).stamp] := by
        rw [e8] at h8
        injection h8 with e
        injection e
      rw [this]; exact hbx
    have hgg : g' = g := by rw [h13] at h13'; injection h13' with e; injection e with e; injection e with e; exact e.symm
    exact hfin v w k da dc g hO hSl hbx' (hgg ▸ hg) hS h13 (h16.trans e9') (h19.trans e12')
end Go.Proofs.Ytkigcdmlkmcdcaa
