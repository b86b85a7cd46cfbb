/- What goes up is caught. -/
import Derived.Test.YtllmeeebjjmanaaDoorErr
import Derived.Tactics
import Derived.Tactics2
import Derived.Defers
import Derived.Recover
import Derived.Laws.Pointers
namespace Go.Proofs.YtllmeeebjjmanaaDoor
open Go.ChangeShapes Go.WideShapes Go.ChangeAt Go.RowKit Go.Extern.Stop Go.Stop Go.Extern
set_option linter.unusedVariables false

theorem Tryd.isErr (v : Value) (xT : TypeId) (w : World) : (Instr.typeAssert (.iface 92 v) xT 58 true).run Tryd.prog w = .ok (.tuple #[.iface 92 v, .bool true]) w := run_typeAssert_hasB Tryd.underlying58 (by kernel_rfl) v xT w
theorem Tryd.nilErr (xT : TypeId) (w : World) : (Instr.typeAssert .nilIface xT 58 true).run Tryd.prog w = .ok (.tuple #[.nilIface, .bool false]) w := by kernel_rfl

theorem catch_up (p : Addr) (why : Int) (w : World) (hc : w.cell? p = some .nilIface) (hz : w.frozen? p = false) :
    CallsD Tryd.prog 42 #[.pointer (some p)] (.panicking ({ v := .iface 92 (.agg #[.int .i64 why]), recovered := false } :: [])) w fun e u' w' =>
      e = .returned (.tuple #[]) ∧ u' = .panicking ({ v := .iface 92 (.agg #[.int .i64 why]), recovered := true } :: []) ∧ w' = w.setCell p (.iface 92 (.agg #[.int .i64 why])) := by
  refine callsD_of_wpS Tryd.func42 rfl fun c₀ cs hu => ?_
  have hT := Tryd.isErr
  apply wpS_seq
  apply wpS_region
  simp [wpOpsS, go_sem, recoverD, hu, Tryd.ntmps42, Exit.thenS, hT]
  apply wpS_seq
  apply wpS_region
  simp [wpOpsS, go_sem, Exit.thenS]
  refine wpS_cond (t := true) (by simp [Act.eval, Array.replicate]) ?_
  simp only [if_true]
  apply wpS_region
  simp [wpOpsS, go_sem, hc, hz, bodyPostS, results, Tryd.results42]

theorem catch_idle (p : Addr) (w : World) :
    CallsD Tryd.prog 42 #[.pointer (some p)] .returning w fun e u' w' => e = .returned (.tuple #[]) ∧ u' = .returning ∧ w' = w := by
  refine callsD_of_wpS Tryd.func42 rfl fun c₀ cs hu => ?_
  have hT := Tryd.nilErr
  apply wpS_seq
  apply wpS_region
  simp [wpOpsS, go_sem, recoverD, hu, Tryd.ntmps42, Exit.thenS, hT]
  apply wpS_seq
  apply wpS_region
  simp [wpOpsS, go_sem, Exit.thenS]
  refine wpS_cond (t := false) (by simp [Act.eval, Array.replicate]) ?_
  simp only [Bool.false_eq_true, if_false]
  refine wpS_of_wp (wp_skip ?_)
  cases c₀
  simp_all [bodyPostS, results, Tryd.results42]

set_option maxRecDepth 100000 in
theorem caught_up (G : Nat) (caps : Array Value) (hcf : ∀ W : World, (callFunc G caps).run Tryd.prog W = .ok (.enter G caps) W) (w : World) (R : Int → World → Prop)
    (hdo : Calls Tryd.prog G caps (w.alloc (.cells #[.nilIface] 58)) fun e W' => ∃ why : Int, e = .panicked [{ v := .iface 92 (.agg #[.int .i64 why]), recovered := false }] ∧ (W'.cell? ⟨w.heap.size, 0, none⟩ = some .nilIface ∧ W'.frozen? ⟨w.heap.size, 0, none⟩ = false) ∧ R why W') :
    Calls Tryd.prog 29 #[.func (.func G) #[] caps] w fun e w' => ∃ why : Int, e = .returned (.iface 92 (.agg #[.int .i64 why])) ∧ ∃ W', R why W' ∧ w' = W'.setCell ⟨w.heap.size, 0, none⟩ (.iface 92 (.agg #[.int .i64 why])) := by
  have hmf : ∀ (fn : Fn) (first cap : Array Value) (w : World), (Instr.makeFunc fn first cap).run Tryd.prog w = .ok (.func fn first cap) w := fun _ _ _ _ => rfl
  have H : Hid (Calls Tryd.prog G caps (w.alloc (.cells #[.nilIface] 58)) fun e W' => ∃ why : Int, e = .panicked [{ v := .iface 92 (.agg #[.int .i64 why]), recovered := false }] ∧ (W'.cell? ⟨w.heap.size, 0, none⟩ = some .nilIface ∧ W'.frozen? ⟨w.heap.size, 0, none⟩ = false) ∧ R why W') := hdo
  clear hdo
  go_enter_defers Tryd.func29, Tryd.ntmps29
  go_wp2_with fail
  refine H.out.mono ?_
  rintro e W' ⟨why, rfl, ⟨hc, hz⟩, hR⟩
  refine leaves_cons (f := 42) (args := #[.pointer (some ⟨w.heap.size, 0, none⟩)]) (by simp) (by simp [go_sem]) ?_
  refine (catch_up ⟨w.heap.size, 0, none⟩ why W' hc hz).mono ?_
  rintro e u' w'' ⟨rfl, rfl, rfl⟩
  have hc2 : (W'.setCell ⟨w.heap.size, 0, none⟩ (.iface 92 (.agg #[.int .i64 why]))).cell? ⟨w.heap.size, 0, none⟩ = some (.iface 92 (.agg #[.int .i64 why])) := World.cell?_setCell_same' _ _ _ (by rw [hc]; rfl)
  simp [Leaves, settle, results, Tryd.results29, go_sem, hc2]
  exact ⟨W', hR, rfl⟩

set_option maxRecDepth 100000 in
theorem caught_ok (G : Nat) (caps : Array Value) (hcf : ∀ W : World, (callFunc G caps).run Tryd.prog W = .ok (.enter G caps) W) (w : World) (R : World → Prop)
    (hdo : Calls Tryd.prog G caps (w.alloc (.cells #[.nilIface] 58)) fun e W' => e = .returned (.tuple #[]) ∧ (W'.cell? ⟨w.heap.size, 0, none⟩ = some .nilIface ∧ W'.frozen? ⟨w.heap.size, 0, none⟩ = false) ∧ R W') :
    Calls Tryd.prog 29 #[.func (.func G) #[] caps] w fun e w' => e = .returned .nilIface ∧ ∃ W', R W' ∧ w' = W'.setCell ⟨w.heap.size, 0, none⟩ .nilIface := by
  have hmf : ∀ (fn : Fn) (first cap : Array Value) (w : World), (Instr.makeFunc fn first cap).run Tryd.prog w = .ok (.func fn first cap) w := fun _ _ _ _ => rfl
  have H : Hid (Calls Tryd.prog G caps (w.alloc (.cells #[.nilIface] 58)) fun e W' => e = .returned (.tuple #[]) ∧ (W'.cell? ⟨w.heap.size, 0, none⟩ = some .nilIface ∧ W'.frozen? ⟨w.heap.size, 0, none⟩ = false) ∧ R W') := hdo
  clear hdo
  go_enter_defers Tryd.func29, Tryd.ntmps29
  go_wp2_with fail
  refine H.out.mono ?_
  rintro e W' ⟨rfl, ⟨hc, hz⟩, hR⟩
  go_wp2_with fail
  refine leaves_cons (f := 42) (args := #[.pointer (some ⟨w.heap.size, 0, none⟩)]) (by simp) (by simp [go_sem]) ?_
  refine (catch_idle ⟨w.heap.size, 0, none⟩ _).mono ?_
  rintro e u' w'' ⟨rfl, rfl, rfl⟩
  have hc2 : (W'.setCell ⟨w.heap.size, 0, none⟩ .nilIface).cell? ⟨w.heap.size, 0, none⟩ = some .nilIface := World.cell?_setCell_same' _ _ _ (by rw [hc]; rfl)
  simp [Leaves, settle, results, Tryd.results29, go_sem, hc2]
  exact ⟨W', hR, rfl⟩
end Go.Proofs.YtllmeeebjjmanaaDoor
