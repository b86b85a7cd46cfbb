/- The contracts of the small functions. -/
import Derived.Test.YtdodagpkkjpdiaaRecv
namespace Go.Proofs.Ytdodagpkkjpdiaa
open Go.ChangeShapes Go.WideShapes Go.ChangeAt Go.RowKit
set_option linter.unusedVariables false

theorem diff_wrap (a b : Int) : Go.RowKit.wrap64 (Go.RowKit.wrap32 ((b - a) % 4294967296)) = Pl.dfI a b := by
  unfold Go.RowKit.wrap64 Go.RowKit.wrap32 Pl.dfI; omega
theorem add_wrap (a n : Int) : (a + n % 4294967296) % 4294967296 = Pl.adI a n := by unfold Pl.adI; omega
theorem df_bd (a b : Int) : -2147483648 ≤ Pl.dfI a b ∧ Pl.dfI a b ≤ 2147483647 := by unfold Pl.dfI; omega
theorem ad_bd (a b : Int) : 0 ≤ Pl.adI a b ∧ Pl.adI a b ≤ 4294967295 := by unfold Pl.adI; omega

theorem diff_walk (a b : Int) (ha : U32 a) (hb : U32 b) (w : World) :
    Calls Try.prog 21 #[.int .u32 a, .int .u32 b] w fun e w' => e = .returned (.int .i64 (Pl.dfI a b)) ∧ w' = w := by
  unfold U32 at ha hb
  go_enter Try.func21, Try.ntmps21
  go_wp2
  go_ret
  exact ⟨ret_int (diff_wrap a b), rfl⟩
theorem add_walk (a n : Int) (w : World) :
    Calls Try.prog 55 #[.int .u32 a, .int .i64 n] w fun e w' => e = .returned (.int .u32 (Pl.adI a n)) ∧ w' = w := by
  go_enter Try.func55, Try.ntmps55
  go_wp2
  go_ret
  exact ⟨ret_int (add_wrap a n), rfl⟩
theorem sum_walk (a b : Int) (ha : -1125899906842624 ≤ a ∧ a ≤ 1125899906842624) (hb : -2147483648 ≤ b ∧ b ≤ 2147483647) (w : World) :
    Calls Try.prog 37 #[.int .i64 a, .int .i64 b] w fun e w' => e = .returned (.int .i64 (a + b)) ∧ w' = w := by
  go_enter Try.func37, Try.ntmps37
  go_wp2
  all_goals go_ret
  all_goals (refine ⟨ret_int ?_, rfl⟩; omega)
theorem unwrap_walk (a b : Int) (ha : 0 ≤ a ∧ a ≤ 1125899906842624) (hb : U32 b) (w : World) :
    Calls Try.prog 17 #[.int .i64 a, .int .u32 b] w fun e w' => e = .returned (.int .i64 (a + Pl.dfI (a % 4294967296) b)) ∧ w' = w := by
  have hd := df_bd (a % 4294967296) b
  have hm : U32 (a % 4294967296) := by unfold U32; omega
  go_enter Try.func17, Try.ntmps17
  go_wp2_with (first | (go_at_call 21; refine (diff_walk (a % 4294967296) _ hm hb _).mono ?_; rintro e w' ⟨rfl, rfl⟩) | (go_at_call 37; refine (sum_walk _ (Pl.dfI (a % 4294967296) b) (by omega) (by omega) _).mono ?_; rintro e w' ⟨rfl, rfl⟩))
  go_ret
  exact ⟨rfl, rfl⟩

def roomB (size shift : Int) : Bool := decide (1 ≤ size) && decide (size ≤ 1073741824) && decide (0 ≤ shift) && decide (shift ≤ 14)
theorem roomB_iff {size shift : Int} : roomB size shift = true ↔ 1 ≤ size ∧ size ≤ 1073741824 ∧ 0 ≤ shift ∧ shift ≤ 14 := by simp [roomB, and_assoc]
theorem isRoom_walk (size shift : Int) (w : World) :
    Calls Try.prog 30 #[.int .i64 size, .int .i64 shift] w fun e w' => e = .returned (.bool (roomB size shift)) ∧ w' = w := by
  go_enter Try.func30, Try.ntmps30
  go_wp2
  all_goals go_ret
  all_goals (refine ⟨ret_bool ?_, rfl⟩; unfold roomB; simp_all <;> omega)

theorem wrap64_id {x : Int} (h1 : -9223372036854775808 ≤ x) (h2 : x ≤ 9223372036854775807) : wrap64 x = x := by unfold wrap64; omega
def lowB (r : Pl.Rv) : Prop := (0 ≤ r.s.n ∧ r.s.n ≤ 562949953421312) ∧ (1 ≤ r.cap ∧ r.cap ≤ 1073741824) ∧ (0 ≤ r.shift ∧ r.shift ≤ 14) ∧ (r.s.u.length : Int) ≤ r.cap ∧ (r.s.u.length : Int) ≤ r.s.n
theorem reach_walk (r : Pl.Rv) (h : Hd) (w : World) (hl : lowB r) :
    Calls Try.prog 60 #[.agg #[.int .i64 r.s.n, .slice h.ua r.s.u.length h.uc, .slice h.la h.es.length h.lc, .int .i64 r.cap, .int .i64 r.shift, .int .i64 r.edge, .int .u32 r.recent, .bool r.stamps, .bool r.sacks, .int .i64 r.fin, .bool r.dn, .slice h.fa r.first.length h.fc, .int .u32 r.irs, .int .u32 r.own, .bool r.stamp]] w fun e w' => e = .returned (.int .i64 r.reach) ∧ Below w.heap.size w w' := by
  obtain ⟨h1, h2, h3, h4, h5⟩ := hl
  go_enter Try.func60, Try.ntmps60
  go_wp2
  go_ret
  exact ⟨ret_int (by unfold Pl.Rv.reach Pl.Rx.bot; omega), (Below.refl _ _).alloc (Nat.le_refl _) _⟩
theorem window_walk (r : Pl.Rv) (h : Hd) (w : World) (hl : lowB r) :
    Calls Try.prog 31 #[.agg #[.int .i64 r.s.n, .slice h.ua r.s.u.length h.uc, .slice h.la h.es.length h.lc, .int .i64 r.cap, .int .i64 r.shift, .int .i64 r.edge, .int .u32 r.recent, .bool r.stamps, .bool r.sacks, .int .i64 r.fin, .bool r.dn, .slice h.fa r.first.length h.fc, .int .u32 r.irs, .int .u32 r.own, .bool r.stamp]] w fun e w' => e = .returned (.int .i64 r.window) ∧ Below w.heap.size w w' := by
  obtain ⟨h1, h2, h3, h4, h5⟩ := hl
  go_enter Try.func31, Try.ntmps31
  go_wp2
  all_goals go_ret
  all_goals (refine ⟨ret_int ?_, (Below.refl _ _).alloc (Nat.le_refl _) _⟩; have hw := Pl.window_bd h4; unfold Pl.Rv.window at hw ⊢; unfold Pl.minJ at hw ⊢)
  · rw [if_pos (by assumption)] at hw ⊢; exact wrap64_id (by omega) (by omega)
  · rw [if_neg (by omega)] at hw ⊢; exact wrap64_id (by omega) (by omega)
theorem limit_walk (r : Pl.Rv) (h : Hd) (w : World) (hl : lowB r) :
    Calls Try.prog 66 #[.agg #[.int .i64 r.s.n, .slice h.ua r.s.u.length h.uc, .slice h.la h.es.length h.lc, .int .i64 r.cap, .int .i64 r.shift, .int .i64 r.edge, .int .u32 r.recent, .bool r.stamps, .bool r.sacks, .int .i64 r.fin, .bool r.dn, .slice h.fa r.first.length h.fc, .int .u32 r.irs, .int .u32 r.own, .bool r.stamp]] w fun e w' => e = .returned (.int .i64 r.limit) ∧ Below w.heap.size w w' := by
  have c := fun W => reach_walk r h W hl
  obtain ⟨R, hR⟩ : ∃ R, r.reach = R := ⟨_, rfl⟩
  have HL : Hid (r.limit = Pl.minJ R 562949953421312) := by unfold Hid Pl.Rv.limit; rw [hR]; rfl
  rw [hR] at c
  clear hR hl
  go_enter Try.func66, Try.ntmps66
  go_wp2_with (go_at_call 60; refine (c _).mono ?_; rintro e w1 ⟨rfl, hB⟩)
  all_goals go_ret
  all_goals (refine ⟨ret_int ?_, ((Below.refl _ w).alloc (Nat.le_refl _) _).trans (hB.mono (by simp))⟩; rw [HL.out]; unfold Pl.minJ; first | rw [if_pos (by assumption)] | rw [if_neg (by omega)])
theorem spanOf_walk (f : Int) (a : Option Addr) (n c : Nat) (w : World) (t : Int) (ht : wrap64 (f + (n : Int)) = t) :
    Calls Try.prog 64 #[.agg #[.int .i64 f, .slice a n c]] w fun e w' => e = .returned (.agg #[.int .i64 f, .int .i64 t]) ∧ Below w.heap.size w w' := by
  go_enter Try.func64, Try.ntmps64
  go_wp2
  refine bodyPost_ret (v := .agg #[.int .i64 f, .int .i64 t]) (by simp [results, Try.results64, go_sem]) rfl ⟨rfl, ?_⟩
  exact ((Below.refl _ w).alloc (Nat.le_refl _) _).alloc (by simp) _
end Go.Proofs.Ytdodagpkkjpdiaa
