/- What goes up, and what its number is: must, refusal's Unwrap, errors.Is, number. -/
import Derived.Test.YtllmeeebjjmanaaDoorLeaf
import Derived.LaidEql
import Derived.Stop.Asserts
import Derived.RowKitTokens
import Derived.Below
import Derived.WalkSmall
namespace Go.Proofs.YtllmeeebjjmanaaDoor
open Go.ChangeShapes Go.WideShapes Go.ChangeAt Go.RowKit Go.Extern.Stop Go.Stop Go.Extern
set_option linter.unusedVariables false

/-- What goes up, by its reason. -/
def upV (why : Int) : Value := .iface 92 (.agg #[.int .i64 why])
/-- .. as a chain. -/
def upC (why : Int) : List PanicEntry := [{ v := upV why, recovered := false }]

theorem must_ok (why : Int) (w : World) :
    Calls Tryd.prog 43 #[.bool true, .int .i64 why] w fun e w' => e = .returned (.tuple #[]) ∧ w' = w := by
  go_enter Tryd.func43, Tryd.ntmps43
  go_wp2
  go_end0
  exact ⟨rfl, rfl⟩

theorem must_no (why : Int) (w : World) :
    Calls Tryd.prog 43 #[.bool false, .int .i64 why] w fun e w' => e = .panicked (upC why) ∧ w' = w := by
  go_enter Tryd.func43, Tryd.ntmps43
  go_wp2
  exact ⟨rfl, rfl, rfl⟩

/-- The three errors that a segment that is refused, too short bytes, and a wrong sum come to. -/
structure Errs (w : World) (a0 a1 a2 : Addr) : Prop where
  g0 : w.cell? ⟨0, 0, none⟩ = some (.iface 107 (.pointer (some a0)))
  g1 : w.cell? ⟨1, 0, none⟩ = some (.iface 107 (.pointer (some a1)))
  g2 : w.cell? ⟨2, 0, none⟩ = some (.iface 107 (.pointer (some a2)))
  b0 : ∃ c t, w.heap[a0.block]? = some (.cells c t (0, 0))
  b1 : ∃ c t, w.heap[a1.block]? = some (.cells c t (0, 0))
  b2 : ∃ c t, w.heap[a2.block]? = some (.cells c t (0, 0))
  n01 : a0 ≠ a1
  n02 : a0 ≠ a2
  n12 : a1 ≠ a2

theorem block_below {w w' : World} {n k : Nat} (hb : Below n w w') (hn : w.heap.size ≤ n) (h : ∃ c t, w.heap[k]? = some (.cells c t (0, 0))) : ∃ c t, w'.heap[k]? = some (.cells c t (0, 0)) := by
  obtain ⟨c, t, h⟩ := h
  exact ⟨c, t, (hb.block k (by have := (Array.getElem?_eq_some_iff.1 h).1; omega)).trans h⟩

theorem Errs.below {w w' : World} {a0 a1 a2 : Addr} (h : Errs w a0 a1 a2) {n : Nat} (hb : Below n w w') (hn : w.heap.size ≤ n) : Errs w' a0 a1 a2 where
  g0 := (hb.cell (p := ⟨0, 0, none⟩) (by have := lt_of_cell h.g0; simp at this ⊢; omega)).trans h.g0
  g1 := (hb.cell (p := ⟨1, 0, none⟩) (by have := lt_of_cell h.g1; simp at this ⊢; omega)).trans h.g1
  g2 := (hb.cell (p := ⟨2, 0, none⟩) (by have := lt_of_cell h.g2; simp at this ⊢; omega)).trans h.g2
  b0 := block_below hb hn h.b0
  b1 := block_below hb hn h.b1
  b2 := block_below hb hn h.b2
  n01 := h.n01
  n02 := h.n02
  n12 := h.n12

theorem Errs.alloc {w : World} {a0 a1 a2 : Addr} (h : Errs w a0 a1 a2) (o : Obj) : Errs (w.alloc o) a0 a1 a2 :=
  h.below ((Below.refl _ w).alloc (Nat.le_refl _) o) (Nat.le_refl _)

/-! ### closed facts -/
theorem Tryd.isTypeOf (v : Value) (w : World) : (callFunc 51 #[.iface 107 v]).run Tryd.prog w = .ok (.value (.iface 95 (.agg #[.pointer (some ⟨4, 107, none⟩)]))) w := by kernel_rfl
theorem Tryd.isComparable (w : World) : (callFunc 77 #[.agg #[.pointer (some ⟨4, 107, none⟩)]]).run Tryd.prog w = .ok (.value (.bool true)) w := by kernel_rfl
theorem Tryd.isMethodComparable (v : Value) (w : World) : (Go.method 243 95 v "Comparable").run Tryd.prog w = .ok (77, v) w := by kernel_rfl
theorem Tryd.isComp : (Tryd.prog.info? 107).map (·.comparable) = some true := by kernel_rfl
theorem Tryd.isSize : (Tryd.prog.info? 132).map (·.size) = some 1 := by kernel_rfl
theorem Tryd.noIsE (v : Value) (xT : TypeId) (w : World) : (Instr.typeAssert (.iface 107 v) xT 97 true).run Tryd.prog w = .ok (.tuple #[.nilIface, .bool false]) w := run_typeAssert_lacksB Tryd.underlying97 (by kernel_rfl) (by kernel_rfl) v xT w
theorem Tryd.noUnwrapE (v : Value) (xT : TypeId) (w : World) : (Instr.typeAssert (.iface 107 v) xT 100 true).run Tryd.prog w = .ok (.tuple #[.nilIface, .bool false]) w := run_typeAssert_lacksB Tryd.underlying100 (by kernel_rfl) (by kernel_rfl) v xT w
theorem Tryd.noUnwrapsE (v : Value) (xT : TypeId) (w : World) : (Instr.typeAssert (.iface 107 v) xT 102 true).run Tryd.prog w = .ok (.tuple #[.nilIface, .bool false]) w := run_typeAssert_lacksB Tryd.underlying102 (by kernel_rfl) (by kernel_rfl) v xT w
theorem Tryd.noIsR (v : Value) (xT : TypeId) (w : World) : (Instr.typeAssert (.iface 92 v) xT 97 true).run Tryd.prog w = .ok (.tuple #[.nilIface, .bool false]) w := run_typeAssert_lacksB Tryd.underlying97 (by kernel_rfl) (by kernel_rfl) v xT w
theorem Tryd.hasUnwrapR (v : Value) (xT : TypeId) (w : World) : (Instr.typeAssert (.iface 92 v) xT 100 true).run Tryd.prog w = .ok (.tuple #[.iface 92 v, .bool true]) w := run_typeAssert_hasB Tryd.underlying100 (by kernel_rfl) v xT w
theorem Tryd.methodUnwrap (v : Value) (w : World) : (Go.method 243 92 v "Unwrap").run Tryd.prog w = .ok (73, v) w := by kernel_rfl

/-- Which of the three a reason comes to (a reason of the fourth is not asked for). -/
def errOf (why : Int) (a0 a1 a2 : Addr) : Addr := if why ≤ 7 then a0 else if why = 11 then a2 else a1

theorem unwrap_any (why : Int) (w : World) (a0 a1 a2 : Addr) (hE : Errs w a0 a1 a2) (hw : (0 ≤ why ∧ why ≤ 7) ∨ why = 8 ∨ why = 10 ∨ why = 11) :
    Calls Tryd.prog 73 #[.agg #[.int .i64 why]] w fun e w' => e = .returned (.iface 107 (.pointer (some (errOf why a0 a1 a2)))) ∧ w' = w.alloc (.cells #[.int .i64 why] 92) := by
  have hg0 := (hE.alloc (.cells #[.int .i64 why] 92)).g0
  have hg1 := (hE.alloc (.cells #[.int .i64 why] 92)).g1
  have hg2 := (hE.alloc (.cells #[.int .i64 why] 92)).g2
  clear hE
  rcases (show why = 0 ∨ why = 1 ∨ why = 2 ∨ why = 3 ∨ why = 4 ∨ why = 5 ∨ why = 6 ∨ why = 7 ∨ why = 8 ∨ why = 10 ∨ why = 11 from by omega) with rfl | rfl | rfl | rfl | rfl | rfl | rfl | rfl | rfl | rfl | rfl
  all_goals (clear hw; go_enter Tryd.func73, Tryd.ntmps73; go_wp2; go_ret; exact ⟨rfl, rfl⟩)

end Go.Proofs.YtllmeeebjjmanaaDoor
