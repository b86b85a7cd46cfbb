/- The document's Same of rows of spans. -/
import Derived.Test.YtdodagpkkjpdiaaSBase
import Derived.Laws.StructEq
import Derived.Deep.QuietTactic
import Derived.BigQuiet
import Derived.Deep.RegionWith
import Derived.Deep.RegionHeld3
import Derived.Deep.DeepCutAuto
namespace Go.Proofs.Ytdodagpkkjpdiaa
open Go.ChangeShapes Go.WideShapes Go.ChangeAt Go.RowKit Go.Shelf
set_option linter.unusedVariables false
set_option linter.unusedSimpArgs false
attribute [local go_sem] Oper.semAt_some

theorem neS (f t : Int) (w : World) : (binOp .neq 39 (.agg #[.int .i64 f, .int .i64 t]) (.agg #[.int .i64 f, .int .i64 t])).run Try.prog w = .ok (.bool false) w := by
  have hu : Try.prog.underlying 39 = some (.struct (Try.prog.fieldsOf 39)) := by kernel_rfl
  have hs : Try.prog.stoodInHeld 39 = false := by kernel_rfl
  have h := run_equalIn_struct (P := Try.prog) w 9999 39 #[.int .i64 f, .int .i64 t] #[.int .i64 f, .int .i64 t] hu hs
  simp only [binOp]
  simp [Op.equal, Op.maxDepth, h, Op.eqFields, go_sem]

set_option maxRecDepth 100000 in
set_option maxHeartbeats 2000000 in
theorem ssame_any (A B : Option Addr) (c d : Nat) (xs : List Tm) (w : World) (hA : TimsAt w A xs) (hB : TimsAt w B xs) :
    Calls Try.prog 25 #[.slice A xs.length c, .slice B xs.length d] w fun e w' => e = .returned (.bool true) ∧ ∃ n, w' = w.drewN n := by
  have HA : Hid (TimsAt w A xs) := hA
  have HB : Hid (TimsAt w B xs) := hB
  have hml : xs.length ≤ 9223372036854775807 := hA.1
  obtain ⟨n, hn⟩ : ∃ n, xs.length = n := ⟨_, rfl⟩
  have HN : Hid (xs.length = n) := hn
  rw [hn] at hml ⊢
  clear hA hB hn
  have hne := neS
  go_enter Try.func25, Try.ntmps25
  go_wp2_with fail
  go_loopw [5] (fun vi wr => ∃ (i k : Nat), vi = .int .i64 i ∧ i ≤ n ∧ wr = w.drewN k)
    (fun vi _ => n - (intOf vi).toNat)
  case atStart => exact ⟨0, 0, rfl, Nat.zero_le _, rfl⟩
  case round =>
    obtain ⟨i, k, rfl, hin, rfl⟩ := hrel
    by_cases hlt : i < n
    · have hi' : i < xs.length := by have := HN.out; omega
      obtain ⟨kb, ko, rfl, hc0, hc1⟩ := HA.out.2 i hi'
      obtain ⟨lb, lo, rfl, hd0, hd1⟩ := HB.out.2 i hi'
      obtain ⟨f, hf⟩ : ∃ f, (xs[i]?.getD (0, 0)).1 = f := ⟨_, rfl⟩
      obtain ⟨t, ht⟩ : ∃ t, (xs[i]?.getD (0, 0)).2 = t := ⟨_, rfl⟩
      rw [hf] at hc0 hd0
      rw [ht] at hc1 hd1
      have hlt' : (i : Int) < (n : Int) := by omega
      clear hf ht hi'
      go_upto_region 6 with fail
      go_quiet (fail)
      go_wp2_with fail
      go_roundw
      case rel => exact ⟨i + 1, _, by go_num, by omega, rfl⟩
      case measure => simp [intOf]; omega
    · obtain rfl : i = n := by omega
      go_wp2_with fail
      go_ret
      exact ⟨rfl, k, rfl⟩
end Go.Proofs.Ytdodagpkkjpdiaa
