/- The iterator over timers: whatever the loop's body, as long as it keeps what lay. -/
import Derived.RangeFuncNested
import Derived.RangeFuncBound
import Derived.RangeFuncCalls
import Derived.RangeFuncLeaves
import Derived.RangeFuncBox
import Derived.Shelf.Abstract
import Derived.Shelf.RegionOpen
import Derived.WalkKit
import Derived.OwnWalkIn
import Derived.TacticsInMore
import Derived.LoopNIn
import Derived.LoopIn
import Derived.ProofKit
import Derived.OpenShut
import Derived.Test.YtdmkbnbdbhggkaaRows
import Derived.Test.YtdmkbnbdbhggkaaPlain
namespace Go.Proofs.Ytdmkbnbdbhggkaa
open Go.ChangeShapes Go.WideShapes Go.ChangeAt Go.RowKit Go.Shelf
set_option linter.unusedVariables false
attribute [local go_sem] Oper.semAt_some

theorem ret_int {k : IntKind} {a b : Int} (h : a = b) : Ending.returned (.int k a) = .returned (.int k b) := by rw [h]
theorem ret_bool {a b : Bool} (h : a = b) : Ending.returned (.bool a) = .returned (.bool b) := by rw [h]

theorem lt_of_cell {w : World} {p : Addr} {v : Value} (h : w.cell? p = some v) : p.block < w.heap.size := by
  unfold World.cell? at h
  by_cases hp : p.block < w.heap.size
  · exact hp
  · rw [Array.getElem?_eq_none (by omega)] at h
    simp at h

/-- The slice at a, of as many timers as l has, holds l. -/
def TimsAt (w : World) (a : Option Addr) (l : List Tm) : Prop :=
  l.length ≤ maxLen ∧ ∀ j, j < l.length → ∃ b o, a = some ⟨b, o, none⟩ ∧ w.cell? ⟨b, o + j * 2, none⟩ = some (.int .i64 (l[j]?.getD (0, 0)).1) ∧ w.cell? ⟨b, o + j * 2 + 1, none⟩ = some (.int .i64 (l[j]?.getD (0, 0)).2)

theorem TimsAt.below {w w' : World} {a : Option Addr} {l : List Tm} (h : TimsAt w a l) {B : Nat} (hb : Below B w w') (hB : w.heap.size ≤ B) : TimsAt w' a l := by
  refine ⟨h.1, fun j hj => ?_⟩
  obtain ⟨b, o, e, hc, hd⟩ := h.2 j hj
  exact ⟨b, o, e, (hb.cell (p := ⟨b, o + j * 2, none⟩) (by have := lt_of_cell hc; omega)).trans hc, (hb.cell (p := ⟨b, o + j * 2 + 1, none⟩) (by have := lt_of_cell hd; omega)).trans hd⟩
theorem TimsAt.nil (w : World) (a : Option Addr) : TimsAt w a [] := ⟨by simp, fun j hj => by simp at hj⟩

theorem take_snoc {l : List Tm} {k : Nat} {x : Tm} (h : k < l.length) (hx : l[k]?.getD (0, 0) = x) : l.take (k + 1) = l.take k ++ [x] := by
  subst hx
  rw [List.take_add_one]; simp [h]

set_option maxRecDepth 100000 in
set_option maxHeartbeats 2000000 in
theorem each1_in (F : Fence) (n : Nat) (h26 : F.fn 26) (hro : F.round = none) (hn : 1 ≤ n) (l Bs cap : Nat) (A : Option Addr) (ts : List Tm) (W0 : World) (J Jx : List Tm → World → Prop)
    (hJa : ∀ pre W o, J pre W → J pre (W.alloc o))
    (hY : ∀ pre (x : Tm) W, J pre W → pre.length < ts.length → YieldAt F (n - 1) Try.prog l #[.agg #[.int .i64 x.1, .int .i64 x.2]] W fun e W' =>
      (e = .returned (.bool true) ∧ J (pre ++ [x]) W' ∧ Below W0.heap.size W W') ∨ (e = .returned (.bool false) ∧ Jx (pre ++ [x]) W'))
    (W : World) (hb0 : Below W0.heap.size W0 W) (hT : TimsAt W0 A ts) (hBs : W.cell? ⟨Bs, 0, none⟩ = some (.slice A ts.length cap)) (h0 : J [] W) :
    CallsIn F n Try.prog 26 #[.func (.yield l) #[] #[], .pointer (some ⟨Bs, 0, none⟩)] W fun e W' => (∃ v, e = .returned v) ∧
      ((∃ ys : List Tm, ys = ts ∧ J ys W') ∨ (∃ pre, pre <+: ts ∧ Jx pre W')) := by
  have hml : ts.length ≤ 9223372036854775807 := hT.1
  refine callsIn_of_wp Try.func26 rfl h26 ?_ hro
  simp only [Try.ntmps26, List.size_toArray, List.length_cons, List.length_nil, Nat.reduceAdd, Nat.reduceSub, Array.replicate_succ, Array.replicate_zero, List.push_toArray, List.append_toArray, List.nil_append, List.cons_append]
  gi_wp2
  gi_loopw [7] (fun vi wr => ∃ (i : Nat), i ≤ ts.length ∧ vi = .int .i64 i ∧ Hid (J (ts.take i) wr) ∧ Hid (Below W0.heap.size W0 wr))
    (fun vi _ => ts.length - (intOf vi).toNat)
  case atStart => exact ⟨0, Nat.zero_le _, rfl, h0, hb0⟩
  case round =>
    obtain ⟨i, hi, rfl, HJ, HB⟩ := hrel
    by_cases hlt : i < ts.length
    · obtain ⟨b, o, rfl, hc, hd⟩ := hT.2 i hlt
      obtain ⟨x, hx⟩ : ∃ x, ts[i]?.getD (0, 0) = x := ⟨_, rfl⟩
      rw [hx] at hc hd
      have hcx : wr.cell? ⟨b, o + i * 2, none⟩ = some (.int .i64 x.1) := (HB.out.cell (p := ⟨b, o + i * 2, none⟩) (lt_of_cell hc)).trans hc
      have hdx : wr.cell? ⟨b, o + i * 2 + 1, none⟩ = some (.int .i64 x.2) := (HB.out.cell (p := ⟨b, o + i * 2 + 1, none⟩) (lt_of_cell hd)).trans hd
      have htk : Hid (ts.take (i + 1) = ts.take i ++ [x]) := take_snoc hlt hx
      have hsz := HB.out.size
      obtain ⟨fn, tmps, assign, body, hy, hR⟩ := hY (ts.take i) x (wr.alloc (.cells #[.int .i64 x.1, .int .i64 x.2] 31)) (hJa _ _ _ HJ.out) (by simp; omega)
      clear hx hc hd
      gi_wp2
      refine hR.mono ?_
      rintro e W3 (⟨rfl, hJ3, hk3⟩ | ⟨rfl, hJx3⟩)
      · gi_wp2
        go_roundw
        case rel => exact ⟨i + 1, by omega, by go_num, by rw [htk.out]; exact hJ3, (HB.out.alloc hsz _).trans hk3⟩
        case measure => simp [intOf]; omega
      · gi_wp2
        refine bodyPost_ret (results_none rfl _ _ _) rfl ?_
        exact ⟨⟨_, rfl⟩, .inr ⟨_, by rw [← htk.out]; exact List.take_prefix _ _, hJx3⟩⟩
    · obtain rfl : i = ts.length := by omega
      gi_wp2
      go_end0
      exact ⟨⟨_, rfl⟩, .inl ⟨_, by simp, HJ.out⟩⟩

set_option maxHeartbeats 1000000 in
theorem each_in (F : Fence) (n : Nat) (h19 : F.fn 19) (hro : F.round = none) (a : Option Addr) (len cap : Nat) (w : World) :
    CallsIn F n Try.prog 19 #[.slice a len cap] w fun e w' => e = .returned (.func (.func 26) #[] #[.pointer (some ⟨w.heap.size, 0, none⟩)]) ∧ w' = w.alloc (.cells #[.slice a len cap] 22) := by
  refine callsIn_of_wp Try.func19 rfl h19 ?_ hro
  simp only [Try.ntmps19, List.size_toArray, List.length_cons, List.length_nil, Nat.reduceAdd, Nat.reduceSub, Array.replicate_succ, Array.replicate_zero, List.push_toArray, List.append_toArray, List.nil_append, List.cons_append]
  gi_wp2
  go_ret
  exact ⟨rfl, rfl⟩

theorem each_stops (F : Fence) (n : Nat) (h26 : F.fn 26) (hro : F.round = none) (hn : 1 ≤ n) (Bs cap : Nat) (A : Option Addr) (ts : List Tm) (W0 w : World) (hBs : Bs < w.heap.size)
    (hb0 : Below W0.heap.size W0 w) (hT : TimsAt W0 A ts) (hc : w.cell? ⟨Bs, 0, none⟩ = some (.slice A ts.length cap)) :
    SeqStopsK F n Try.prog 26 #[.pointer (some ⟨Bs, 0, none⟩)] (fun x : Tm => #[Value.agg #[.int .i64 x.1, .int .i64 x.2]]) (Below W0.heap.size) (fun ys => ys = ts) (fun pre => pre <+: ts) ts.length w := fun l J Jx W hW hJ _ hY h0 =>
  each1_in F n h26 hro hn l Bs cap A ts W0 J Jx (fun pre W' o hj => hJ pre W' _ none hj (World.grownBy_alloc W' o none) (fun r e => by cases e)) hY W (hb0.trans (hW.mono hb0.size)) hT ((hW.cell (p := ⟨Bs, 0, none⟩) hBs).trans hc) h0
end Go.Proofs.Ytdmkbnbdbhggkaa
