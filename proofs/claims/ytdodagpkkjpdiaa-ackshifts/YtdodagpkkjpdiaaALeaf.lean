/- The contracts of Diff, Sum and Unwrap, for all numbers. -/
import Derived.Test.YtdodagpkkjpdiaaABase
namespace Go.Proofs.Ytdodagpkkjpdiaa
open Go.ChangeShapes Go.WideShapes Go.ChangeAt Go.RowKit Go.Shelf
set_option linter.unusedVariables false
set_option linter.unusedSimpArgs false
attribute [local go_sem] Oper.semAt_some


theorem adiff_wrap (a b : Int) : Go.RowKit.wrap64 (Go.RowKit.wrap32 ((b - a) % 4294967296)) = Ak.dif a b := by
  unfold Go.RowKit.wrap64 Go.RowKit.wrap32 Ak.dif; omega
theorem adiff_walk (a b : Int) (w : World) : Calls Try.prog 21 #[.int .u32 a, .int .u32 b] w fun e w' => e = .returned (.int .i64 (Ak.dif a b)) ∧ w' = w := by
  go_enter Try.func21, Try.ntmps21
  go_wp2
  go_ret
  exact ⟨ret_int (adiff_wrap a b), rfl⟩
theorem asum_walk (a b : Int) (ha : I64 a) (hb : I64 b) (w : World) : Calls Try.prog 37 #[.int .i64 a, .int .i64 b] w fun e w' => e = .returned (.int .i64 (Ak.sat (a + b))) ∧ w' = w := by
  unfold I64 at ha hb
  go_enter Try.func37, Try.ntmps37
  go_wp2
  all_goals go_ret
  all_goals (refine ⟨ret_int ?_, rfl⟩; unfold Ak.sat; first | omega | (split <;> (try split) <;> omega))
theorem aunwrap_walk (a b : Int) (ha : I64 a) (w : World) : Calls Try.prog 17 #[.int .i64 a, .int .u32 b] w fun e w' => e = .returned (.int .i64 (Ak.sat (a + Ak.dif (a % 4294967296) b))) ∧ w' = w := by
  have hd := Ak.dif_bd (a % 4294967296) b
  have hI : I64 (Ak.dif (a % 4294967296) b) := by unfold I64; omega
  have c1 := adiff_walk (a % 4294967296) b
  have c2 := asum_walk a (Ak.dif (a % 4294967296) b) ha hI
  unfold I64 at ha
  clear hd hI
  go_enter Try.func17, Try.ntmps17
  go_wp2_with (first | (go_at_call 21; refine (c1 _).mono ?_; rintro e w' ⟨rfl, rfl⟩) | (go_at_call 37; refine (c2 _).mono ?_; rintro e w' ⟨rfl, rfl⟩))
  go_ret
  exact ⟨rfl, rfl⟩
/-- The offset of a number, as the closure tells it. -/
theorem clo_is (a : Ak.As) (h : AsI a) (x : Int) (g : Nat) (w : World) (hC : Box w g 24 (asL a)) : Calls Try.prog 16 #[.int .u32 x, .pointer (some ⟨g, 0, none⟩)] w fun e w' => e = .returned (.int .i64 (Ak.ofs a.una x a.iss)) ∧ w' = w := by
  have k0 := Box.cell hC 0 rfl
  have k2 := Box.cell hC 2 rfl
  have c1 := aunwrap_walk a.una ((x - a.iss) % 4294967296) h.una
  go_enter Try.func16, Try.ntmps16
  go_wp2_with (first | (go_at_call 17; refine (c1 _).mono ?_; rintro e w' ⟨rfl, rfl⟩))
  go_ret
  exact ⟨rfl, rfl⟩
end Go.Proofs.Ytdodagpkkjpdiaa
