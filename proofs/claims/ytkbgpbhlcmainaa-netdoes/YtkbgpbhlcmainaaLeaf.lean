/- The contracts of the small functions. -/
import Derived.Test.YtkbgpbhlcmainaaBase
import Derived.Lib.Bytes
import Derived.Lib.AppendZeros
namespace Go.Proofs.Ytkbgpbhlcmainaa
open Go.ChangeShapes Go.WideShapes Go.ChangeAt Go.RowKit
set_option linter.unusedVariables false

theorem conv0 (a : Option Addr) (c : Nat) (w : World) : (convert 24 9 (.slice a 0 c)).run Try.prog w = .ok (.string ByteArray.empty) w := by
  cases a <;> kernel_rfl
theorem conv_any (a : Option Addr) (c : Nat) (xs : List Int) (w : World) (h : BytesAt w a xs) : (convert 24 9 (.slice a xs.length c)).run Try.prog w = .ok (.string (strOfNums xs)) w := by
  by_cases h0 : 0 < xs.length
  · obtain ⟨b1, o1, rfl, _⟩ := h.2.2 0 h0
    exact run_convert_bytes_arg (P := Try.prog) w 24 5 Try.underlying24 Try.underlying5 b1 o1 xs.length c xs rfl (fun i hi => by
      obtain ⟨_, _, e, hc⟩ := h.2.2 i hi
      cases e; simpa using hc) 9 Try.underlying9
  · obtain rfl : xs = [] := List.eq_nil_of_length_eq_zero (by omega)
    exact conv0 a c w
theorem str_inj {xs ys : List Int} (hx : Byts xs) (hy : Byts ys) : ((strOfNums xs).toList == (strOfNums ys).toList) = decide (xs = ys) := by
  rw [Lib.strOfNums_toList, Lib.strOfNums_toList]
  rw [Bool.eq_iff_iff, beq_iff_eq, decide_eq_true_iff]
  unfold Lib.bytesOf
  refine ⟨fun h => ?_, fun h => by rw [h]⟩
  have h' := h
  clear h
  induction xs generalizing ys with
  | nil => cases ys with
    | nil => rfl
    | cons b s => simp at h'
  | cons a r ih => cases ys with
    | nil => simp at h'
    | cons b s =>
      simp only [List.map_cons, List.cons.injEq] at h'
      have ha := hx a (by simp)
      have hb := hy b (by simp)
      have e : a.toNat = b.toNat := by
        have := congrArg UInt8.toNat h'.1
        simp at this
        omega
      rw [ih (fun x h => hx x (by simp [h])) (fun x h => hy x (by simp [h])) h'.2, show a = b by omega]

theorem same_any (a b : Option Addr) (c d : Nat) (xs ys : List Int) (w : World) (ha : BytesAt w a xs) (hb : BytesAt w b ys) :
    Calls Try.prog 24 #[.slice a xs.length c, .slice b ys.length d] w fun e w' => e = .returned (.bool (decide (xs = ys))) ∧ w' = w := by
  have k1 := conv_any a c xs w ha
  have k2 := conv_any b d ys w hb
  have hi := str_inj ha.2.1 hb.2.1
  clear ha hb
  go_enter Try.func24, Try.ntmps24
  go_wp2
  go_ret
  exact ⟨rfl, rfl⟩
theorem equal_any (a b : Option Addr) (c d : Nat) (xs ys : List Int) (w : World) (ha : BytesAt w a xs) (hb : BytesAt w b ys) :
    Calls Try.prog 31 #[.slice a xs.length c, .slice b ys.length d] w fun e w' => e = .returned (.bool (decide (xs = ys))) ∧ w' = w := by
  have k1 := conv_any a c xs w ha
  have k2 := conv_any b d ys w hb
  have hi := str_inj ha.2.1 hb.2.1
  clear ha hb
  go_enter Try.func31, Try.ntmps31
  go_wp2
  go_ret
  exact ⟨rfl, rfl⟩

theorem isFull_walk (A : Option Addr) (n c : Nat) (w : World) :
    Calls Try.prog 25 #[.slice A n c] w fun e w' => e = .returned (.bool (decide (65536 ≤ n))) ∧ w' = w := by
  go_enter Try.func25, Try.ntmps25
  go_wp2
  all_goals go_ret
  all_goals (refine ⟨ret_bool ?_, rfl⟩; simp_all <;> omega)
theorem isPlace_walk (A : Option Addr) (n c : Nat) (k : Int) (w : World) :
    Calls Try.prog 28 #[.slice A n c, .int .i64 k] w fun e w' => e = .returned (.bool (plB n k)) ∧ w' = w := by
  go_enter Try.func28, Try.ntmps28
  go_wp2
  all_goals go_ret
  all_goals (refine ⟨ret_bool ?_, rfl⟩; unfold plB; simp_all <;> omega)

theorem nil_eql (a : Option Addr) (n c : Nat) (w : World) : (binOp .eql 24 (.slice a n c) (.slice none 0 0)).run Try.prog w = .ok (.bool a.isNone) w := by
  cases a <;> kernel_rfl

set_option maxRecDepth 100000 in
theorem clone_any (a : Option Addr) (c : Nat) (xs : List Int) (w : World) (h : BytesAt w a xs) (h0 : a = none → c = 0) :
    Calls Try.prog 32 #[.slice a xs.length c] w fun e w' => ∃ va vc, e = .returned (.slice va xs.length vc) ∧ Row w' w.heap.size va xs.length vc xs ∧ Below w.heap.size w w' := by
  have hn := nil_eql
  cases a with
  | none =>
    obtain rfl := h.nil0
    clear h h0
    go_enter Try.func32, Try.ntmps32
    go_wp2
    go_ret
    exact ⟨none, 0, rfl, World.ownsRow_nil _ _ _ _, Below.refl _ _⟩
  | some x =>
    have hl := h.1
    obtain ⟨va, vc, w', hr, hR, hB, _⟩ := app_run (w.alloc (.cells #[] 5)) w.heap.size _ 0 0 [] (some x) xs.length c xs 24 (row_empty w _ (Nat.le_refl _)) (h.alloc _) rfl (fun h => by cases h) (by omega) (by simp)
    have HF : Hid (Row w' w.heap.size va xs.length vc xs ∧ Below w.heap.size w w') := ⟨by simpa using hR, ((Below.refl _ w).alloc (Nat.le_refl _) _).trans hB⟩
    rw [Nat.zero_add] at hr
    have A3 : Hid (_ = _) := hr
    clear h hR hB hr h0
    go_enter Try.func32, Try.ntmps32
    go_wp2_with (at_builtin; refine Lib.wpList_append_run (w.alloc (.cells #[] 5)) rfl (.tmp 5) (.tmp 6) 24 24 rfl (.slice (some ⟨w.heap.size, 0, none⟩) 0 0) (.slice (some x) xs.length c) rfl rfl (.slice va xs.length vc) w' A3.out ?_)
    go_ret
    exact ⟨va, vc, rfl, HF.out.1, HF.out.2⟩
end Go.Proofs.Ytkbgpbhlcmainaa
