/- The small functions; slices.Clone, Grow and Concat at spans. -/
import Derived.Test.YtdodagpkkjpdiaaSColl
import Derived.Lib.AppendZeros
import Derived.Laws.CopyRow
import Derived.Laws.Externs
namespace Go.Proofs.Ytdodagpkkjpdiaa
open Go.ChangeShapes Go.WideShapes Go.ChangeAt Go.RowKit Go.Shelf
set_option linter.unusedVariables false

theorem elemS : Try.prog.elem 29 = 39 := by kernel_rfl
theorem underS : Try.prog.underlying 29 = some (.slice (Try.prog.elem 29)) := by rw [elemS]; exact Try.underlying29
theorem sizeS (w : World) : (sizeOf (Try.prog.elem 29)).run Try.prog w = .ok 2 w := by kernel_rfl
theorem sl_upto (a : Option Addr) (n c h : Nat) (hi : Int) (hh : hi = (h : Int)) (h2 : h ≤ c) (w : World) :
    (Instr.slice 29 (.slice a n c) none (some (.int .i64 hi)) none).run Try.prog w = .ok (.slice a h c) w := by
  subst hh
  rw [run_slice_h w 29 a n c underS .i64 h (by omega) (by omega), sizeS]
  cases a with
  | none => simp [sliced]
  | some x => simp [sliced, Addr.add]
theorem zeroCells_len (z : Array Value) (n : Nat) : (Builtin.zeroCells z n).size = n * z.size := by simp [Builtin.zeroCells]

theorem nil_eqlS (a : Option Addr) (n c : Nat) (w : World) : (binOp .eql 29 (.slice a n c) (.slice none 0 0)).run Try.prog w = .ok (.bool a.isNone) w := by
  cases a <;> kernel_rfl

set_option maxRecDepth 100000 in
set_option maxHeartbeats 2000000 in
theorem cloneS_any (A : Option Addr) (cap : Nat) (ts : List Tm) (w : World) (hT : TimsAt w A ts) (hA : A = none → cap = 0) (hb : ts.length * 16 ≤ 140737488355328) :
    Calls Try.prog 48 #[.slice A ts.length cap] w fun e W' => ∃ va vc, e = .returned (.slice va ts.length vc) ∧ RowT W' w.heap.size va ts.length vc ts ∧ Below w.heap.size w W' := by
  have hnil := nil_eqlS
  cases A with
  | none =>
    have hl : ts = [] := by
      cases ts with
      | nil => rfl
      | cons a r => obtain ⟨_, _, e, _⟩ := hT.2 0 (by simp); cases e
    have hc := hA rfl
    subst hl; subst hc
    go_enter Try.func48, Try.ntmps48
    go_wp2
    go_ret
    exact ⟨none, 0, rfl, RowT.nil _ _, Below.refl _ _⟩
  | some ad =>
    obtain ⟨va1, vc1, w1, r1, R1, g1⟩ := app_row (w.alloc (.cells #[] 39)) w.heap.size _ 0 0 [] (owns_empty w w.heap.size (Nat.le_refl _)) (by simp) (some ad) cap ts (hT.alloc _) hA (by omega)
    have b0 : Below w.heap.size w (w.alloc (.cells #[] 39)) := (Below.refl _ w).alloc (Nat.le_refl _) _
    have hB1 : Below w.heap.size w w1 := below_append b0 (by simp) (owns_empty w w.heap.size (Nat.le_refl _)) g1
    rw [Nat.zero_add] at r1
    rw [Nat.zero_add, List.nil_append] at R1
    have HR1 : Hid (_ = _) := r1
    have HF : Hid (RowT w1 w.heap.size va1 ts.length vc1 ts ∧ Below w.heap.size w w1) := ⟨R1, hB1⟩
    obtain ⟨n, hn⟩ : ∃ n, ts.length = n := ⟨_, rfl⟩
    rw [hn] at HR1 HF ⊢
    clear r1 R1 hB1 g1 b0 hT hn hb hA
    go_enter Try.func48, Try.ntmps48
    go_wp2_with (at_builtin; refine Lib.wpList_append_run (w.alloc (.cells #[] 39)) rfl (.tmp 5) (.tmp 6) 29 29 rfl (.slice (some ⟨w.heap.size, 0, none⟩) 0 0) (.slice (some ad) n cap) rfl rfl (.slice va1 n vc1) w1 HR1.out ?_)
    go_ret
    exact ⟨va1, vc1, rfl, HF.out.1, HF.out.2⟩

set_option maxRecDepth 100000 in
set_option maxHeartbeats 2000000 in
theorem grow_any (n : Nat) (w : World) (h0 : 0 < n) (hb : n * 16 ≤ 140737488355328) :
    Calls Try.prog 73 #[.slice none 0 0, .int .i64 n] w fun e W' => ∃ va vc, e = .returned (.slice va 0 vc) ∧ RowT W' w.heap.size va 0 vc [] ∧ Below w.heap.size w W' := by
  obtain ⟨i0, hi0, hz0, hz1, hz2⟩ := info_parts Try.info39
  obtain ⟨G, hG⟩ : ∃ G, grownCap w n 0 39 = G := ⟨_, rfl⟩
  have hGn : n ≤ G := by rw [← hG]; exact grownCap_ge w _ _ _
  have hGm : G ≤ maxLen := by rw [← hG]; exact grownCap_le_maxLen w n 0 39 (by unfold maxLen; omega)
  have hrz : ∀ ty, (Builtin.append_ #[29, 3] ty #[.slice none 0 0, .int .i64 (n : Int)]).run Try.prog w = .ok (.slice (some ⟨w.heap.size, 0, none⟩) n G) (w.drew.alloc (.cells (Builtin.zeroCells (Value.agg #[.int .i64 0, .int .i64 0]).cells n ++ Builtin.zeroCells (Value.agg #[.int .i64 0, .int .i64 0]).cells (G - n)) 39)) := fun ty => by
    have h := Lib.run_append_nil_zeros w 29 3 ty 39 i0 _ .i64 .i64 Try.underlying29 Try.underlying3 hi0 hz0 n h0 (by omega) (by omega) (by rw [hz2]; omega)
    rw [hG] at h
    exact h
  obtain ⟨ROW, hROW⟩ : ∃ ROW : List Value, Builtin.zeroCells (Value.agg #[.int .i64 0, .int .i64 0]).cells n ++ Builtin.zeroCells (Value.agg #[.int .i64 0, .int .i64 0]).cells (G - n) = ROW.toArray := ⟨_, rfl⟩
  have hRl : ROW.length = G * 2 := by
    have h1 := congrArg Array.size hROW
    simp only [Array.size_append, zeroCells_len, List.size_toArray] at h1
    have h2 : (Value.agg #[.int .i64 0, .int .i64 0]).cells.size = 2 := rfl
    rw [h2] at h1
    omega
  rw [hROW] at hrz
  obtain ⟨W1, hW1⟩ : ∃ W1, w.drew.alloc (.cells ROW.toArray 39) = W1 := ⟨_, rfl⟩
  rw [hW1] at hrz
  have hN1 : W1.heap[w.heap.size]? = some (.cells ROW.toArray 39 (0, 0)) := by rw [← hW1]; exact World.alloc_heap_new w.drew _
  have hBo : Below w.heap.size w W1 := by rw [← hW1]; exact ((Below.refl _ w).drew).alloc (Nat.le_refl _) _
  have HF : Hid (RowT W1 w.heap.size (some ⟨w.heap.size, 0, none⟩) 0 G [] ∧ Below w.heap.size w W1) := ⟨row_mk (cur := ROW) (Nat.le_refl _) hN1 (by omega) hGm hRl rfl rfl, hBo⟩
  have HZ : Hid (∀ ty, (Builtin.append_ #[29, 3] ty #[.slice none 0 0, .int .i64 (n : Int)]).run Try.prog w = .ok (.slice (some ⟨w.heap.size, 0, none⟩) n G) W1) := hrz
  have e1 := sl_upto none 0 0 0 0 rfl (by omega)
  have e2 := sl_upto (some ⟨w.heap.size, 0, none⟩) n G 0 0 rfl (by omega)
  obtain ⟨N, hN⟩ : ∃ N, w.heap.size = N := ⟨_, rfl⟩
  have HN : Hid (w.heap.size = N) := hN
  rw [hN] at HZ e2 HF
  clear hrz hW1 hN1 hBo hRl hROW hG hGm hi0 hz0 hz1 hz2 hN
  go_enter Try.func73, Try.ntmps73
  go_wp2_with (at_builtin; refine Lib.wpList_append_run _ rfl _ _ _ _ rfl _ _ rfl rfl _ _ (HZ.out _) ?_)
  go_ret
  exact ⟨_, _, rfl, by rw [HN.out]; exact HF.out.1, by rw [HN.out]; exact HF.out.2⟩

/-- Rows, one behind the other. -/
def cat (ls : Nat → List Tm) (i : Nat) : List Tm := (List.range i).flatMap ls
theorem cat_succ (ls : Nat → List Tm) (i : Nat) : cat ls (i + 1) = cat ls i ++ ls i := by simp [cat, List.range_succ]
theorem cat_le (ls : Nat → List Tm) {i k : Nat} (h : i ≤ k) : (cat ls i).length ≤ (cat ls k).length := by
  induction k with
  | zero => obtain rfl : i = 0 := by omega
            exact Nat.le_refl _
  | succ k ih =>
    rcases Nat.lt_or_ge i (k + 1) with h1 | h1
    · have := ih (by omega); rw [cat_succ, List.length_append]; omega
    · obtain rfl : i = k + 1 := by omega
      exact Nat.le_refl _

set_option maxRecDepth 100000 in
set_option maxHeartbeats 4000000 in
theorem concat_any (k Bc : Nat) (ads : Nat → Option Addr) (cs : Nat → Nat) (ls : Nat → List Tm) (w : World) (hk : k ≤ 1000) (hcell : ∀ j, j < k → w.cell? ⟨Bc, j, none⟩ = some (.slice (ads j) (ls j).length (cs j))) (hT : ∀ j, j < k → TimsAt w (ads j) (ls j)) (hA : ∀ j, j < k → ads j = none → cs j = 0)
    (h0 : 0 < (cat ls k).length) (hb : (cat ls k).length * 16 ≤ 140737488355328) :
    Calls Try.prog 54 #[.slice (some ⟨Bc, 0, none⟩) k k] w fun e W' => ∃ va vc, e = .returned (.slice va (cat ls k).length vc) ∧ RowT W' w.heap.size va (cat ls k).length vc (cat ls k) ∧ Below w.heap.size w W' := by
  have HC : Hid (∀ j, j < k → w.cell? ⟨Bc, j, none⟩ = some (.slice (ads j) (ls j).length (cs j))) := hcell
  have HT : Hid (∀ j, j < k → TimsAt w (ads j) (ls j)) := hT
  have HA : Hid (∀ j, j < k → ads j = none → cs j = 0) := hA
  have cG := grow_any (cat ls k).length w h0 hb
  obtain ⟨T, hTt⟩ : ∃ T, (cat ls k).length = T := ⟨_, rfl⟩
  have HTT : Hid ((cat ls k).length = T) := hTt
  rw [hTt] at h0 hb cG ⊢
  clear hcell hT hA hTt
  go_enter Try.func54, Try.ntmps54
  go_wp2_with fail
  go_loopw [3, 11] (fun vs vi wr => ∃ (i S : Nat), vi = .int .i64 i ∧ vs = .int .i64 S ∧ i ≤ k ∧ S ≤ T ∧ w = wr ∧ Hid ((cat ls i).length = S))
    (fun _ vi _ => k - (intOf vi).toNat)
  case atStart => exact ⟨0, 0, rfl, rfl, Nat.zero_le _, Nat.zero_le _, rfl, by simp [cat, Hid]⟩
  case round =>
    obtain ⟨i, S, rfl, rfl, hik, hST, rfl, HS⟩ := hrel
    by_cases hlt : i < k
    · have hc := HC.out i hlt
      have hle := cat_le ls (show i + 1 ≤ k by omega)
      have HSN : Hid ((cat ls (i + 1)).length = S + (ls i).length) := by unfold Hid; rw [cat_succ, List.length_append, HS.out]
      rw [HSN.out, HTT.out] at hle
      obtain ⟨n, hn⟩ : ∃ n, (ls i).length = n := ⟨_, rfl⟩
      rw [hn] at hc hle HSN
      obtain ⟨A, hAA⟩ : ∃ A, ads i = A := ⟨_, rfl⟩
      rw [hAA] at hc
      obtain ⟨c, hcc⟩ : ∃ c, cs i = c := ⟨_, rfl⟩
      rw [hcc] at hc
      clear hn hAA hcc
      go_wp2_with fail
      go_roundw
      case rel => exact ⟨i + 1, S + n, by go_num, by go_num, by omega, by omega, by first | rfl | trivial, HSN.out⟩
      case measure => simp [intOf]; omega
    · obtain rfl : i = k := by omega
      have hSe : S = T := by rw [← HS.out, HTT.out]
      subst hSe
      go_wp2_with (go_at_call 73; refine cG.mono ?_; rintro e w1 ⟨va, vc, rfl, hR1, hB1⟩)
      go_loopw [6, 27] (fun v vi wr => ∃ (j n : Nat) (va : Option Addr) (vc : Nat), vi = .int .i64 j ∧ v = .slice va n vc ∧ j ≤ i ∧ n ≤ S ∧ Hid ((cat ls j).length = n) ∧ Hid (RowT wr w.heap.size va n vc (cat ls j)) ∧ Hid (Below w.heap.size w wr))
        (fun _ vi _ => i - (intOf vi).toNat)
      case atStart => exact ⟨0, 0, va, vc, rfl, rfl, Nat.zero_le _, Nat.zero_le _, by simp [cat, Hid], hR1, hB1⟩
      case round =>
        obtain ⟨j, n, va, vc, rfl, rfl, hji, hnS, HN, HR, HB⟩ := hrel
        by_cases hlt2 : j < i
        · have hc0 := HC.out j hlt2
          have hc := (HB.out.cell (p := ⟨Bc, j, none⟩) (lt_of_cell hc0)).trans hc0
          have hle := cat_le ls (show j + 1 ≤ i by omega)
          have HSN : Hid ((cat ls (j + 1)).length = n + (ls j).length) := by unfold Hid; rw [cat_succ, List.length_append, HN.out]
          rw [HSN.out, HTT.out] at hle
          obtain ⟨va', vc', w', hr, hR', hg'⟩ := app_row wr w.heap.size va n vc (cat ls j) HR.out HB.out.size (ads j) (cs j) (ls j) ((HT.out j hlt2).later HB.out) (HA.out j hlt2) (by omega)
          have HR2 : Hid (RowT w' w.heap.size va' (n + (ls j).length) vc' (cat ls (j + 1))) := by unfold Hid; rw [cat_succ]; exact hR'
          have HB2 : Hid (Below w.heap.size w w') := below_append HB.out HB.out.size HR.out hg'
          have HRN : Hid (_ = _) := hr
          obtain ⟨m, hm⟩ : ∃ m, (ls j).length = m := ⟨_, rfl⟩
          obtain ⟨A, hAA⟩ : ∃ A, ads j = A := ⟨_, rfl⟩
          obtain ⟨c, hcc⟩ : ∃ c, cs j = c := ⟨_, rfl⟩
          rw [hm] at hc hle HSN HR2 HRN
          rw [hAA] at hc HRN
          rw [hcc] at hc HRN
          clear hr hR' hg' hc0 hm hAA hcc HR
          go_wp2_with (at_builtin; refine Lib.wpList_append_run wr rfl (.tmp 31) (.tmp 32) 29 29 rfl (.slice va n vc) (.slice A m c) rfl rfl (.slice va' (n + m) vc') w' HRN.out ?_)
          go_roundw
          case rel => exact ⟨j + 1, n + m, va', vc', by go_num, rfl, by omega, by omega, HSN.out, HR2.out, HB2.out⟩
          case measure => simp [intOf]; omega
        · obtain rfl : j = i := by omega
          have hSe : n = S := by rw [← HN.out, HTT.out]
          subst hSe
          go_wp2_with fail
          go_ret
          exact ⟨va, vc, rfl, HR.out, HB.out⟩
end Go.Proofs.Ytdodagpkkjpdiaa
