/- The document's window and New. -/
import Derived.Test.YtkigcdmlkmcdcaaZ
import Derived.Test.YtkigcdmlkmcdcaaMSameW
namespace Go.Proofs.Ytkigcdmlkmcdcaa
open Go.ChangeShapes Go.WideShapes Go.ChangeAt Go.RowKit
set_option linter.unusedVariables false
set_option linter.unusedSimpArgs false

theorem refwin_nums {r : Pl.Rv} (hl : lowB r) : ∃ U D : Int, wrap64 ((2 : Int) ^ r.shift.toNat) = U ∧ 1 ≤ U ∧ (wrap64 ((r.cap - (r.s.u.length : Int)).tdiv U) = D ∧ (r.cap - (r.s.u.length : Int)) / U = D) ∧ (D ≤ 65535 → wrap64 (D * U) = r.window) ∧ (¬ D ≤ 65535 → wrap64 (65535 * U) = r.window) := by
 obtain ⟨h1, h2, h3, h4, h5⟩ := hl
 have hp := Pl.two_pos r.shift.toNat
 have hq : (2 : Int) ^ r.shift.toNat ≤ 16384 := by
  obtain ⟨k, hk⟩ : ∃ k : Nat, r.shift.toNat = k := ⟨_, rfl⟩
  have hk14 : k ≤ 14 := by omega
  rw [hk]
  have : ∀ j, j ≤ 14 → (2 : Int) ^ j ≤ 16384 := by decide
  exact this k hk14
 have hw := Pl.window_bd h4
 have hwd : r.window = Pl.minJ ((r.cap - (r.s.u.length : Int)) / (2 : Int) ^ r.shift.toNat) 65535 * (2 : Int) ^ r.shift.toNat := rfl
 obtain ⟨U, hU⟩ : ∃ U, (2 : Int) ^ r.shift.toNat = U := ⟨_, rfl⟩
 rw [hU] at hp hq hwd
 obtain ⟨a, ha⟩ : ∃ a, r.cap - (r.s.u.length : Int) = a := ⟨_, rfl⟩
 rw [ha] at hw hwd
 have ha0 : 0 ≤ a ∧ a ≤ 1073741824 := by omega
 have hd0 : 0 ≤ a / U := Int.ediv_nonneg ha0.1 (by omega)
 have hd1 : a / U ≤ a := Int.ediv_le_self _ ha0.1
 have e1 : a.tdiv U = a / U := Int.tdiv_eq_ediv_of_nonneg ha0.1
 refine ⟨U, a / U, by rw [hU]; exact zbg (by omega) (by omega), hp, ⟨by rw [ha, e1]; exact zbg (by omega) (by omega), by rw [ha]⟩, fun h => ?_, fun h => ?_⟩
 · have : Pl.minJ (a / U) 65535 = a / U := by unfold Pl.minJ; rw [if_neg (by omega)]
   rw [this] at hwd
   rw [← hwd]; exact zbg (by omega) (by omega)
 · have : Pl.minJ (a / U) 65535 = 65535 := by unfold Pl.minJ; rw [if_pos (by omega)]
   rw [this] at hwd
   rw [← hwd]; exact zbg (by omega) (by omega)
theorem zcg (r : Pl.Rv) (h : Hd) (w : World) (hl : lowB r) :
 Calls Try.prog 48 #[.agg #[.int .i64 r.s.n, .slice h.ua r.s.u.length h.uc, .slice h.la h.es.length h.lc, .int .i64 r.cap, .int .i64 r.shift, .int .i64 r.edge, .int .u32 r.recent, .bool r.stamps, .bool r.sacks, .int .i64 r.fin, .bool r.dn, .slice h.fa r.first.length h.fc, .int .u32 r.irs, .int .u32 r.own, .bool r.stamp]] w fun e w' => e = .returned (.int .i64 r.window) ∧ Below w.heap.size w w' := by
 obtain ⟨U, D, e1, e2, ⟨e3, e7⟩, e4, e5⟩ := refwin_nums hl
 obtain ⟨h1, h2, h3, h4, h5⟩ := hl
 obtain ⟨wn, hwn⟩ : ∃ wn, r.window = wn := ⟨_, rfl⟩
 rw [hwn] at e4 e5 ⊢
 have hU0 : ¬ U = 0 := by omega
 by_cases hD : D ≤ 65535
 · have e6 := e4 hD
   clear e4 e5 hwn
   go_enter Try.func48, Try.ntmps48
   go_wp2_with fail
   go_ret
   exact ⟨by first | rfl | exact zbe e6, (Below.refl _ _).alloc (Nat.le_refl _) _⟩
 · have e6 := e5 hD
   clear e4 e5 hwn
   go_enter Try.func48, Try.ntmps48
   go_wp2_with fail
   go_ret
   exact ⟨by first | rfl | exact zbe e6, (Below.refl _ _).alloc (Nat.le_refl _) _⟩
end Go.Proofs.Ytkigcdmlkmcdcaa

