/- The contracts of slices.Grow and slices.Concat at records. -/
import Derived.Test.YtokiklaffbdomaaApp
import Derived.Lib.AppendZeros
import Derived.Laws.CopyRow
import Derived.Laws.Externs
namespace Go.Proofs.Ytokiklaffbdomaa
open Go.ChangeShapes Go.WideShapes Go.ChangeAt Go.RowKit Go.Shelf
set_option linter.unusedVariables false
attribute [local go_sem] Oper.semAt_some
theorem elem22 : Try.prog.elem 22 = 28 := by kernel_rfl
theorem under22 : Try.prog.underlying 22 = some (.slice (Try.prog.elem 22)) := by rw [elem22]; exact Try.underlying22
theorem size28 (w : World) : (sizeOf (Try.prog.elem 22)).run Try.prog w = .ok 12 w := by kernel_rfl
theorem sl_upto (a : Option Addr) (n c h : Nat) (hi : Int) (hh : hi = (h : Int)) (h2 : h ≤ c) (w : World) :
    (Instr.slice 22 (.slice a n c) none (some (.int .i64 hi)) none).run Try.prog w = .ok (.slice a h c) w := by
  subst hh
  rw [run_slice_h w 22 a n c under22 .i64 h (by omega) (by omega), size28]
  cases a with
  | none => simp [sliced]
  | some x => simp [sliced, Addr.add]
theorem zeroCells_len (z : Array Value) (n : Nat) : (Builtin.zeroCells z n).size = n * z.size := by simp [Builtin.zeroCells]

set_option maxRecDepth 100000 in
set_option maxHeartbeats 2000000 in
theorem grow_any (n : Nat) (w : World) (h0 : 0 < n) (hb : n * 80 ≤ 140737488355328) :
    Calls Try.prog 47 #[.slice none 0 0, .int .i64 n] w fun e W' => ∃ va vc, e = .returned (.slice va 0 vc) ∧ RowR W' w.heap.size va 0 vc [] ∧ Below w.heap.size w W' := by
  obtain ⟨i0, hi0, hz0, hz1, hz2⟩ := info_parts Try.info28
  obtain ⟨G, hG⟩ : ∃ G, grownCap w n 0 28 = G := ⟨_, rfl⟩
  have hGn : n ≤ G := by rw [← hG]; exact grownCap_ge w _ _ _
  have hGm : G ≤ maxLen := by rw [← hG]; exact grownCap_le_maxLen w n 0 28 (by unfold maxLen; omega)
  have hrz : ∀ ty, (Builtin.append_ #[22, 3] ty #[.slice none 0 0, .int .i64 (n : Int)]).run Try.prog w = .ok (.slice (some ⟨w.heap.size, 0, none⟩) n G) (w.drew.alloc (.cells (Builtin.zeroCells (Value.agg #[.int .i64 rz.f, .int .i64 rz.t, .bool rz.fin, .int .i64 rz.sent, .int .i64 rz.tx, .bool rz.sk, .bool rz.lo, .bool rz.ag, .int .i64 rz.gv, .int .i64 rz.ga, .int .i64 rz.fa, .bool rz.idl]).cells n ++ Builtin.zeroCells (Value.agg #[.int .i64 rz.f, .int .i64 rz.t, .bool rz.fin, .int .i64 rz.sent, .int .i64 rz.tx, .bool rz.sk, .bool rz.lo, .bool rz.ag, .int .i64 rz.gv, .int .i64 rz.ga, .int .i64 rz.fa, .bool rz.idl]).cells (G - n)) 28)) := fun ty => by
    have h := Lib.run_append_nil_zeros w 22 3 ty 28 i0 _ .i64 .i64 Try.underlying22 Try.underlying3 hi0 hz0 n h0 (by omega) (by omega) (by rw [hz2]; omega)
    rw [hG] at h
    exact h
  obtain ⟨ROW, hROW⟩ : ∃ ROW : List Value, Builtin.zeroCells (Value.agg #[.int .i64 rz.f, .int .i64 rz.t, .bool rz.fin, .int .i64 rz.sent, .int .i64 rz.tx, .bool rz.sk, .bool rz.lo, .bool rz.ag, .int .i64 rz.gv, .int .i64 rz.ga, .int .i64 rz.fa, .bool rz.idl]).cells n ++ Builtin.zeroCells (Value.agg #[.int .i64 rz.f, .int .i64 rz.t, .bool rz.fin, .int .i64 rz.sent, .int .i64 rz.tx, .bool rz.sk, .bool rz.lo, .bool rz.ag, .int .i64 rz.gv, .int .i64 rz.ga, .int .i64 rz.fa, .bool rz.idl]).cells (G - n) = ROW.toArray := ⟨_, rfl⟩
  have hRl : ROW.length = G * 12 := by
    have h1 := congrArg Array.size hROW
    simp only [Array.size_append, zeroCells_len, List.size_toArray] at h1
    have h2 : (Value.agg #[.int .i64 rz.f, .int .i64 rz.t, .bool rz.fin, .int .i64 rz.sent, .int .i64 rz.tx, .bool rz.sk, .bool rz.lo, .bool rz.ag, .int .i64 rz.gv, .int .i64 rz.ga, .int .i64 rz.fa, .bool rz.idl]).cells.size = 12 := rfl
    rw [h2] at h1
    omega
  rw [hROW] at hrz
  obtain ⟨W1, hW1⟩ : ∃ W1, w.drew.alloc (.cells ROW.toArray 28) = W1 := ⟨_, rfl⟩
  rw [hW1] at hrz
  have hN1 : W1.heap[w.heap.size]? = some (.cells ROW.toArray 28 (0, 0)) := by rw [← hW1]; exact World.alloc_heap_new w.drew _
  have hBo : Below w.heap.size w W1 := by rw [← hW1]; exact ((Below.refl _ w).drew).alloc (Nat.le_refl _) _
  have HF : Hid (RowR W1 w.heap.size (some ⟨w.heap.size, 0, none⟩) 0 G [] ∧ Below w.heap.size w W1) := ⟨row_mk (cur := ROW) (Nat.le_refl _) hN1 (by omega) hGm hRl rfl rfl, hBo⟩
  have HZ : Hid (∀ ty, (Builtin.append_ #[22, 3] ty #[.slice none 0 0, .int .i64 (n : Int)]).run Try.prog w = .ok (.slice (some ⟨w.heap.size, 0, none⟩) n G) W1) := hrz
  have e1 := sl_upto none 0 0 0 0 rfl (by omega)
  have e2 := sl_upto (some ⟨w.heap.size, 0, none⟩) n G 0 0 rfl (by omega)
  obtain ⟨N, hN⟩ : ∃ N, w.heap.size = N := ⟨_, rfl⟩
  have HN : Hid (w.heap.size = N) := hN
  rw [hN] at HZ e2 HF
  clear hrz hW1 hN1 hBo hRl hROW hG hGm hi0 hz0 hz1 hz2 hN
  go_enter Try.func47, Try.ntmps47
  go_wp2_with (at_builtin; refine Lib.wpList_append_run _ rfl _ _ _ _ rfl _ _ rfl rfl _ _ (HZ.out _) ?_)
  go_ret
  exact ⟨_, _, rfl, by rw [HN.out]; exact HF.out.1, by rw [HN.out]; exact HF.out.2⟩

/-- Rows, one behind the other. -/
def cat (ls : Nat → List Rc) (i : Nat) : List Rc := (List.range i).flatMap ls
theorem cat_succ (ls : Nat → List Rc) (i : Nat) : cat ls (i + 1) = cat ls i ++ ls i := by simp [cat, List.range_succ]
theorem cat_le (ls : Nat → List Rc) {i k : Nat} (h : i ≤ k) : (cat ls i).length ≤ (cat ls k).length := by
  induction k with
  | zero => obtain rfl : i = 0 := by omega
            exact Nat.le_refl _
  | succ k ih =>
    rcases Nat.lt_or_ge i (k + 1) with h1 | h1
    · have := ih (by omega); rw [cat_succ, List.length_append]; omega
    · obtain rfl : i = k + 1 := by omega
      exact Nat.le_refl _

set_option maxRecDepth 100000 in
set_option maxHeartbeats 4000000 in
theorem concat_any (k Bc : Nat) (ads : Nat → Option Addr) (cs : Nat → Nat) (ls : Nat → List Rc) (w : World) (hk : k ≤ 1000) (hcell : ∀ j, j < k → w.cell? ⟨Bc, j, none⟩ = some (.slice (ads j) (ls j).length (cs j))) (hT : ∀ j, j < k → RecsAt w (ads j) (ls j)) (hA : ∀ j, j < k → ads j = none → cs j = 0)
    (h0 : 0 < (cat ls k).length) (hb : (cat ls k).length * 80 ≤ 140737488355328) :
    Calls Try.prog 37 #[.slice (some ⟨Bc, 0, none⟩) k k] w fun e W' => ∃ va vc, e = .returned (.slice va (cat ls k).length vc) ∧ RowR W' w.heap.size va (cat ls k).length vc (cat ls k) ∧ Below w.heap.size w W' := by
  have HC : Hid (∀ j, j < k → w.cell? ⟨Bc, j, none⟩ = some (.slice (ads j) (ls j).length (cs j))) := hcell
  have HT : Hid (∀ j, j < k → RecsAt w (ads j) (ls j)) := hT
  have HA : Hid (∀ j, j < k → ads j = none → cs j = 0) := hA
  have cG := grow_any (cat ls k).length w h0 hb
  obtain ⟨T, hTt⟩ : ∃ T, (cat ls k).length = T := ⟨_, rfl⟩
  have HTT : Hid ((cat ls k).length = T) := hTt
  rw [hTt] at h0 hb cG ⊢
  clear hcell hT hA hTt
  go_enter Try.func37, Try.ntmps37
  go_wp2_with fail
  go_loopw [3, 11] (fun vs vi wr => ∃ (i S : Nat), vi = .int .i64 i ∧ vs = .int .i64 S ∧ i ≤ k ∧ S ≤ T ∧ w = wr ∧ Hid ((cat ls i).length = S))
    (fun _ vi _ => k - (intOf vi).toNat)
  case atStart => exact ⟨0, 0, rfl, rfl, Nat.zero_le _, Nat.zero_le _, rfl, by simp [cat, Hid]⟩
  case round =>
    obtain ⟨i, S, rfl, rfl, hik, hST, rfl, HS⟩ := hrel
    by_cases hlt : i < k
    · have hc := HC.out i hlt
      have hle := cat_le ls (show i + 1 ≤ k by omega)
      have HSN : Hid ((cat ls (i + 1)).length = S + (ls i).length) := by unfold Hid; rw [cat_succ, List.length_append, HS.out]
      rw [HSN.out, HTT.out] at hle
      obtain ⟨n, hn⟩ : ∃ n, (ls i).length = n := ⟨_, rfl⟩
      rw [hn] at hc hle HSN
      obtain ⟨A, hAA⟩ : ∃ A, ads i = A := ⟨_, rfl⟩
      rw [hAA] at hc
      obtain ⟨c, hcc⟩ : ∃ c, cs i = c := ⟨_, rfl⟩
      rw [hcc] at hc
      clear hn hAA hcc
      go_wp2_with fail
      go_roundw
      case rel => exact ⟨i + 1, S + n, by go_num, by go_num, by omega, by omega, by first | rfl | trivial, HSN.out⟩
      case measure => simp [intOf]; omega
    · obtain rfl : i = k := by omega
      have hSe : S = T := by rw [← HS.out, HTT.out]
      subst hSe
      go_wp2_with (go_at_call 47; refine cG.mono ?_; rintro e w1 ⟨va, vc, rfl, hR1, hB1⟩)
      go_loopw [6, 27] (fun v vi wr => ∃ (j n : Nat) (va : Option Addr) (vc : Nat), vi = .int .i64 j ∧ v = .slice va n vc ∧ j ≤ i ∧ n ≤ S ∧ Hid ((cat ls j).length = n) ∧ Hid (RowR wr w.heap.size va n vc (cat ls j)) ∧ Hid (Below w.heap.size w wr))
        (fun _ vi _ => i - (intOf vi).toNat)
      case atStart => exact ⟨0, 0, va, vc, rfl, rfl, Nat.zero_le _, Nat.zero_le _, by simp [cat, Hid], hR1, hB1⟩
      case round =>
        obtain ⟨j, n, va, vc, rfl, rfl, hji, hnS, HN, HR, HB⟩ := hrel
        by_cases hlt2 : j < i
        · have hc0 := HC.out j hlt2
          have hc := (HB.out.cell (p := ⟨Bc, j, none⟩) (lt_of_cell hc0)).trans hc0
          have hle := cat_le ls (show j + 1 ≤ i by omega)
          have HSN : Hid ((cat ls (j + 1)).length = n + (ls j).length) := by unfold Hid; rw [cat_succ, List.length_append, HN.out]
          rw [HSN.out, HTT.out] at hle
          obtain ⟨va', vc', w', hr, hR', hg'⟩ := app_row wr w.heap.size va n vc (cat ls j) HR.out HB.out.size (ads j) (cs j) (ls j) ((HT.out j hlt2).later HB.out) (HA.out j hlt2) (by omega)
          have HR2 : Hid (RowR w' w.heap.size va' (n + (ls j).length) vc' (cat ls (j + 1))) := by unfold Hid; rw [cat_succ]; exact hR'
          have HB2 : Hid (Below w.heap.size w w') := below_append HB.out HB.out.size HR.out hg'
          have HRN : Hid (_ = _) := hr
          obtain ⟨m, hm⟩ : ∃ m, (ls j).length = m := ⟨_, rfl⟩
          obtain ⟨A, hAA⟩ : ∃ A, ads j = A := ⟨_, rfl⟩
          obtain ⟨c, hcc⟩ : ∃ c, cs j = c := ⟨_, rfl⟩
          rw [hm] at hc hle HSN HR2 HRN
          rw [hAA] at hc HRN
          rw [hcc] at hc HRN
          clear hr hR' hg' hc0 hm hAA hcc HR
          go_wp2_with (at_builtin; refine Lib.wpList_append_run wr rfl (.tmp 31) (.tmp 32) 22 22 rfl (.slice va n vc) (.slice A m c) rfl rfl (.slice va' (n + m) vc') w' HRN.out ?_)
          go_roundw
          case rel => exact ⟨j + 1, n + m, va', vc', by go_num, rfl, by omega, by omega, HSN.out, HR2.out, HB2.out⟩
          case measure => simp [intOf]; omega
        · obtain rfl : j = i := by omega
          have hSe : n = S := by rw [← HN.out, HTT.out]
          subst hSe
          go_wp2_with fail
          go_ret
          exact ⟨va, vc, rfl, HR.out, HB.out⟩
end Go.Proofs.Ytokiklaffbdomaa
