/- The document's window and New. -/
import Derived.Test.YtkigcdmlkmcdcaaMSameW
namespace Go.Proofs.Ytkigcdmlkmcdcaa
open Go.ChangeShapes Go.WideShapes Go.ChangeAt Go.RowKit
set_option linter.unusedVariables false
set_option linter.unusedSimpArgs false

theorem refwin_nums {r : Pl.Rv} (hl : lowB r) : ∃ U D : Int, wrap64 ((2 : Int) ^ r.shift.toNat) = U ∧ 1 ≤ U ∧ (wrap64 ((r.cap - (r.s.u.length : Int)).tdiv U) = D ∧ (r.cap - (r.s.u.length : Int)) / U = D) ∧ (D ≤ 65535 → wrap64 (D * U) = r.window) ∧ (¬ D ≤ 65535 → wrap64 (65535 * U) = r.window) := by
  obtain ⟨h1, h2, h3, h4, h5⟩ := hl
  have hp := Pl.two_pos r.shift.toNat
  have hq : (2 : Int) ^ r.shift.toNat ≤ 16384 := by
    obtain ⟨k, hk⟩ : ∃ k : Nat, r.shift.toNat = k := ⟨_, rfl⟩
    have hk14 : k ≤ 14 := by omega
    rw [hk]
    have : ∀ j, j ≤ 14 → (2 : Int) ^ j ≤ 16384 := by decide
    exact this k hk14
  have hw := Pl.window_bd h4
  have hwd : r.window = Pl.minJ ((r.cap - (r.s.u.length : Int)) / (2 : Int) ^ r.shift.toNat) 65535 * (2 : Int) ^ r.shift.toNat := rfl
  obtain ⟨U, hU⟩ : ∃ U, (2 : Int) ^ r.shift.toNat = U := ⟨_, rfl⟩
  rw [hU] at hp hq hwd
  obtain ⟨a, ha⟩ : ∃ a, r.cap - (r.s.u.length : Int) = a := ⟨_, rfl⟩
  rw [ha] at hw hwd
  have ha0 : 0 ≤ a ∧ a ≤ 1073741824 := by omega
  have hd0 : 0 ≤ a / U := Int.ediv_nonneg ha0.1 (by omega)
  have hd1 : a / U ≤ a := Int.ediv_le_self _ ha0.1
  have e1 : a.tdiv U = a / U := Int.tdiv_eq_ediv_of_nonneg ha0.1
  refine ⟨U, a / U, by rw [hU]; exact wrap64_id (by omega) (by omega), hp, ⟨by rw [ha, e1]; exact wrap64_id (by omega) (by omega), by rw [ha]⟩, fun h => ?_, fun h => ?_⟩
  · have : Pl.minJ (a / U) 65535 = a / U := by unfold Pl.minJ; rw [if_neg (by omega)]
    rw [this] at hwd
    rw [← hwd]; exact wrap64_id (by omega) (by omega)
  · have : Pl.minJ (a / U) 65535 = 65535 := by unfold Pl.minJ; rw [if_pos (by omega)]
    rw [this] at hwd
    rw [← hwd]; exact wrap64_id (by omega) (by omega)
theorem refWindow_walk (r : Pl.Rv) (h : Hd) (w : World) (hl : lowB r) :
    Calls Try.prog 48 #[.agg #[.int .i64 r.s.n, .slice h.ua r.s.u.length h.uc, .slice h.la h.es.length h.lc, .int .i64 r.cap, .int .i64 r.shift, .int .i64 r.edge, .int .u32 r.recent, .bool r.stamps, .bool r.sacks, .int .i64 r.fin, .bool r.dn, .slice h.fa r.first.length h.fc, .int .u32 r.irs, .int .u32 r.own, .bool r.stamp]] w fun e w' => e = .returned (.int .i64 r.window) ∧ Below w.heap.size w w' := by
  obtain ⟨U, D, e1, e2, ⟨e3, e7⟩, e4, e5⟩ := refwin_nums hl
  obtain ⟨h1, h2, h3, h4, h5⟩ := hl
  obtain ⟨wn, hwn⟩ : ∃ wn, r.window = wn := ⟨_, rfl⟩
  rw [hwn] at e4 e5 ⊢
  have hU0 : ¬ U = 0 := by omega
  by_cases hD : D ≤ 65535
  · have e6 := e4 hD
    clear e4 e5 hwn
    go_enter Try.func48, Try.ntmps48
    go_wp2_with fail
    go_ret
    exact ⟨by first | rfl | exact ret_int e6, (Below.refl _ _).alloc (Nat.le_refl _) _⟩
  · have e6 := e5 hD
    clear e4 e5 hwn
    go_enter Try.func48, Try.ntmps48
    go_wp2_with fail
    go_ret
    exact ⟨by first | rfl | exact ret_int e6, (Below.refl _ _).alloc (Nat.le_refl _) _⟩
set_option maxRecDepth 100000 in
set_option maxHeartbeats 4000000 in
theorem refNew_no (size shift irs own : Int) (stamps sacks : Bool) (w : World) (hr : roomB size shift = false) :
    Calls Try.prog 24 #[.int .i64 size, .int .i64 shift, .int .u32 irs, .int .u32 own, .bool stamps, .bool sacks] w fun e w' => e = .returned (.tuple #[.agg #[.int .i64 0, .slice none 0 0, .slice none 0 0, .int .i64 0, .int .i64 0, .int .i64 0, .int .u32 0, .bool false, .bool false, .int .i64 0, .bool false, .slice none 0 0, .int .u32 0, .int .u32 0, .bool false], .int .i64 2]) ∧ Below w.heap.size w w' := by
  have hc : size < 1 ∨ (¬ size < 1 ∧ 1073741824 < size) ∨ (¬ size < 1 ∧ ¬ 1073741824 < size ∧ shift < 0) ∨ (¬ size < 1 ∧ ¬ 1073741824 < size ∧ ¬ shift < 0 ∧ 14 < shift) := by
    have : ¬ (1 ≤ size ∧ size ≤ 1073741824 ∧ 0 ≤ shift ∧ shift ≤ 14) := fun h => by rw [roomB_iff.2 h] at hr; cases hr
    omega
  clear hr
  have hz := Box.new w 27 [.int .i64 0, .slice none 0 0, .slice none 0 0, .int .i64 0, .int .i64 0, .int .i64 0, .int .u32 0, .bool false, .bool false, .int .i64 0, .bool false, .slice none 0 0, .int .u32 0, .int .u32 0, .bool false]
  obtain ⟨W0, hW0⟩ : ∃ W0, w.alloc (.cells #[.int .i64 0, .slice none 0 0, .slice none 0 0, .int .i64 0, .int .i64 0, .int .i64 0, .int .u32 0, .bool false, .bool false, .int .i64 0, .bool false, .slice none 0 0, .int .u32 0, .int .u32 0, .bool false] 27) = W0 := ⟨_, rfl⟩
  have hz' : Box W0 w.heap.size 27 [.int .i64 0, .slice none 0 0, .slice none 0 0, .int .i64 0, .int .i64 0, .int .i64 0, .int .u32 0, .bool false, .bool false, .int .i64 0, .bool false, .slice none 0 0, .int .u32 0, .int .u32 0, .bool false] := by rw [← hW0]; exact hz
  have hb : Below w.heap.size w W0 := by rw [← hW0]; exact below_more (Below.refl _ _) _
  have HF : Hid (Box (setAll W0 w.heap.size 0 [.int .i64 0, .slice none 0 0, .slice none 0 0, .int .i64 0, .int .i64 0, .int .i64 0, .int .u32 0, .bool false, .bool false, .int .i64 0, .bool false, .slice none 0 0, .int .u32 0, .int .u32 0, .bool false]) w.heap.size 27 [.int .i64 0, .slice none 0 0, .slice none 0 0, .int .i64 0, .int .i64 0, .int .i64 0, .int .u32 0, .bool false, .bool false, .int .i64 0, .bool false, .slice none 0 0, .int .u32 0, .int .u32 0, .bool false] ∧ Below w.heap.size w (setAll W0 w.heap.size 0 [.int .i64 0, .slice none 0 0, .slice none 0 0, .int .i64 0, .int .i64 0, .int .i64 0, .int .u32 0, .bool false, .bool false, .int .i64 0, .bool false, .slice none 0 0, .int .u32 0, .int .u32 0, .bool false])) := ⟨hz'.put _ rfl, setAll_below (Nat.le_refl _) hb⟩
  obtain ⟨c0, c1, c2, c3, c4, c5, c6, c7, c8, c9, c10, c11, c12, c13, c14⟩ := Box.c15 hz'
  obtain ⟨f0, f1, f2, f3, f4, f5, f6, f7, f8, f9, f10, f11, f12, f13, f14⟩ := Box.f15 hz'
  clear hz hz' hb
  rcases hc with h1 | ⟨h1, h2⟩ | ⟨h1, h2, h3⟩ | ⟨h1, h2, h3, h4⟩
  all_goals (
    go_enter Try.func24, Try.ntmps24
    go_wp2_with fail
    refine bodyPost_ret (res_rt rfl _ _ w.heap.size [.int .i64 0, .slice none 0 0, .slice none 0 0, .int .i64 0, .int .i64 0, .int .i64 0, .int .u32 0, .bool false, .bool false, .int .i64 0, .bool false, .slice none 0 0, .int .u32 0, .int .u32 0, .bool false] rfl rfl HF.out.1) rfl ?_
    exact ⟨rfl, HF.out.2⟩)
set_option maxRecDepth 100000 in
set_option maxHeartbeats 4000000 in
theorem refNew_ok (size shift irs own : Int) (stamps sacks : Bool) (w : World) (hr : roomB size shift = true) :
    Calls Try.prog 24 #[.int .i64 size, .int .i64 shift, .int .u32 irs, .int .u32 own, .bool stamps, .bool sacks] w fun e w' => e = .returned (.tuple #[.agg #[.int .i64 (Pl.newR size shift irs own stamps sacks).s.n, .slice noH.ua (Pl.newR size shift irs own stamps sacks).s.u.length noH.uc, .slice noH.la noH.es.length noH.lc, .int .i64 (Pl.newR size shift irs own stamps sacks).cap, .int .i64 (Pl.newR size shift irs own stamps sacks).shift, .int .i64 (Pl.newR size shift irs own stamps sacks).edge, .int .u32 (Pl.newR size shift irs own stamps sacks).recent, .bool (Pl.newR size shift irs own stamps sacks).stamps, .bool (Pl.newR size shift irs own stamps sacks).sacks, .int .i64 (Pl.newR size shift irs own stamps sacks).fin, .bool (Pl.newR size shift irs own stamps sacks).dn, .slice noH.fa (Pl.newR size shift irs own stamps sacks).first.length noH.fc, .int .u32 (Pl.newR size shift irs own stamps sacks).irs, .int .u32 (Pl.newR size shift irs own stamps sacks).own, .bool (Pl.newR size shift irs own stamps sacks).stamp], .int .i64 0]) ∧ Below w.heap.size w w' := by
  obtain ⟨r1, r2, r3, r4⟩ := roomB_iff.1 hr
  have n1 : ¬ size < 1 := by omega
  have n2 : ¬ 1073741824 < size := by omega
  have n3 : ¬ shift < 0 := by omega
  have n4 : ¬ 14 < shift := by omega
  have cW : ∀ W, Calls Try.prog 48 #[.agg #[.int .i64 0, .slice none 0 0, .slice none 0 0, .int .i64 size, .int .i64 shift, .int .i64 0, .int .u32 0, .bool stamps, .bool sacks, .int .i64 (-1), .bool false, .slice none 0 0, .int .u32 irs, .int .u32 own, .bool false]] W fun e w' => e = .returned (.int .i64 (Pl.newR size shift irs own stamps sacks).edge) ∧ Below W.heap.size W w' := fun W => refWindow_walk _ noH W (new_low (irs := irs) (own := own) (stamps := stamps) (sacks := sacks) hr)
  show Calls Try.prog 24 #[.int .i64 size, .int .i64 shift, .int .u32 irs, .int .u32 own, .bool stamps, .bool sacks] w fun e w' => e = .returned (.tuple #[.agg #[.int .i64 0, .slice none 0 0, .slice none 0 0, .int .i64 size, .int .i64 shift, .int .i64 (Pl.newR size shift irs own stamps sacks).edge, .int .u32 0, .bool stamps, .bool sacks, .int .i64 (-1), .bool false, .slice none 0 0, .int .u32 irs, .int .u32 own, .bool false], .int .i64 0]) ∧ Below w.heap.size w w'
  obtain ⟨wd, hwd⟩ : ∃ wd, (Pl.newR size shift irs own stamps sacks).edge = wd := ⟨_, rfl⟩
  rw [hwd] at cW ⊢
  clear hr hwd
  obtain ⟨W0, hW0⟩ : ∃ W0, (w.alloc (.cells #[.int .i64 0, .slice none 0 0, .slice none 0 0, .int .i64 0, .int .i64 0, .int .i64 0, .int .u32 0, .bool false, .bool false, .int .i64 0, .bool false, .slice none 0 0, .int .u32 0, .int .u32 0, .bool false] 27)).alloc (.cells #[.int .i64 0, .slice none 0 0, .slice none 0 0, .int .i64 size, .int .i64 shift, .int .i64 0, .int .u32 0, .bool stamps, .bool sacks, .int .i64 (-1), .bool false, .slice none 0 0, .int .u32 irs, .int .u32 own, .bool false] 27) = W0 := ⟨_, rfl⟩
  have hz : Box W0 w.heap.size 27 [.int .i64 0, .slice none 0 0, .slice none 0 0, .int .i64 0, .int .i64 0, .int .i64 0, .int .u32 0, .bool false, .bool false, .int .i64 0, .bool false, .slice none 0 0, .int .u32 0, .int .u32 0, .bool false] := by rw [← hW0]; exact (Box.new w 27 [.int .i64 0, .slice none 0 0, .slice none 0 0, .int .i64 0, .int .i64 0, .int .i64 0, .int .u32 0, .bool false, .bool false, .int .i64 0, .bool false, .slice none 0 0, .int .u32 0, .int .u32 0, .bool false]).alloc _
  have hx : Box W0 (w.heap.size + 1) 27 [.int .i64 0, .slice none 0 0, .slice none 0 0, .int .i64 size, .int .i64 shift, .int .i64 0, .int .u32 0, .bool stamps, .bool sacks, .int .i64 (-1), .bool false, .slice none 0 0, .int .u32 irs, .int .u32 own, .bool false] := by rw [← hW0]; have := Box.new (w.alloc (.cells #[.int .i64 0, .slice none 0 0, .slice none 0 0, .int .i64 0, .int .i64 0, .int .i64 0, .int .u32 0, .bool false, .bool false, .int .i64 0, .bool false, .slice none 0 0, .int .u32 0, .int .u32 0, .bool false] 27)) 27 [.int .i64 0, .slice none 0 0, .slice none 0 0, .int .i64 size, .int .i64 shift, .int .i64 0, .int .u32 0, .bool stamps, .bool sacks, .int .i64 (-1), .bool false, .slice none 0 0, .int .u32 irs, .int .u32 own, .bool false]; rwa [World.size_alloc] at this
  have hb : Below w.heap.size w W0 := by rw [← hW0]; exact below_more (below_more (Below.refl _ _) _) _
  have HB0 : Hid ((w.alloc (.cells #[.int .i64 0, .slice none 0 0, .slice none 0 0, .int .i64 0, .int .i64 0, .int .i64 0, .int .u32 0, .bool false, .bool false, .int .i64 0, .bool false, .slice none 0 0, .int .u32 0, .int .u32 0, .bool false] 27)).alloc (.cells #[.int .i64 0, .slice none 0 0, .slice none 0 0, .int .i64 size, .int .i64 shift, .int .i64 0, .int .u32 0, .bool stamps, .bool sacks, .int .i64 (-1), .bool false, .slice none 0 0, .int .u32 irs, .int .u32 own, .bool false] 27) = W0 ∧ Box W0 w.heap.size 27 [.int .i64 0, .slice none 0 0, .slice none 0 0, .int .i64 0, .int .i64 0, .int .i64 0, .int .u32 0, .bool false, .bool false, .int .i64 0, .bool false, .slice none 0 0, .int .u32 0, .int .u32 0, .bool false] ∧ Box W0 (w.heap.size + 1) 27 [.int .i64 0, .slice none 0 0, .slice none 0 0, .int .i64 size, .int .i64 shift, .int .i64 0, .int .u32 0, .bool stamps, .bool sacks, .int .i64 (-1), .bool false, .slice none 0 0, .int .u32 irs, .int .u32 own, .bool false] ∧ Below w.heap.size w W0) := ⟨hW0, hz, hx, hb⟩
  clear hW0 hz hx hb
  go_enter Try.func24, Try.ntmps24
  go_wp2_with fail
  refine (cW _).mono ?_
  rintro e w2 ⟨rfl, hB2⟩
  rw [HB0.out.1] at hB2
  have hx2 := HB0.out.2.2.1.later hB2
  have hz2 := HB0.out.2.1.later hB2
  have hc5 := hx2.cell 5 rfl
  have hf5 := hx2.frozen 5
  have HX : Hid (Box (w2.setCell ⟨w.heap.size + 1, 5, none⟩ (.int .i64 wd)) (w.heap.size + 1) 27 [.int .i64 0, .slice none 0 0, .slice none 0 0, .int .i64 size, .int .i64 shift, .int .i64 wd, .int .u32 0, .bool stamps, .bool sacks, .int .i64 (-1), .bool false, .slice none 0 0, .int .u32 irs, .int .u32 own, .bool false] ∧ Box (w2.setCell ⟨w.heap.size + 1, 5, none⟩ (.int .i64 wd)) w.heap.size 27 [.int .i64 0, .slice none 0 0, .slice none 0 0, .int .i64 0, .int .i64 0, .int .i64 0, .int .u32 0, .bool false, .bool false, .int .i64 0, .bool false, .slice none 0 0, .int .u32 0, .int .u32 0, .bool false] ∧ Below w.heap.size w (w2.setCell ⟨w.heap.size + 1, 5, none⟩ (.int .i64 wd))) := ⟨hx2.set 5 _, hz2.aside _ _ _ (by omega), below_set (Below.on HB0.out.2.2.2 hB2) _ _ _ (by omega)⟩
  clear hB2 hx2 hz2 cW HB0
  go_upto_region 5 with fail
  obtain ⟨V, hV⟩ : ∃ V, w2.setCell ⟨w.heap.size + 1, 5, none⟩ (.int .i64 wd) = V := ⟨_, rfl⟩
  rw [hV] at HX ⊢
  clear hV hc5 hf5
  have HF : Hid (Box (setAll V w.heap.size 0 [.int .i64 0, .slice none 0 0, .slice none 0 0, .int .i64 size, .int .i64 shift, .int .i64 wd, .int .u32 0, .bool stamps, .bool sacks, .int .i64 (-1), .bool false, .slice none 0 0, .int .u32 irs, .int .u32 own, .bool false]) w.heap.size 27 [.int .i64 0, .slice none 0 0, .slice none 0 0, .int .i64 size, .int .i64 shift, .int .i64 wd, .int .u32 0, .bool stamps, .bool sacks, .int .i64 (-1), .bool false, .slice none 0 0, .int .u32 irs, .int .u32 own, .bool false] ∧ Below w.heap.size w (setAll V w.heap.size 0 [.int .i64 0, .slice none 0 0, .slice none 0 0, .int .i64 size, .int .i64 shift, .int .i64 wd, .int .u32 0, .bool stamps, .bool sacks, .int .i64 (-1), .bool false, .slice none 0 0, .int .u32 irs, .int .u32 own, .bool false])) := ⟨HX.out.2.1.put _ rfl, setAll_below (Nat.le_refl _) HX.out.2.2⟩
  obtain ⟨d0, d1, d2, d3, d4, d5, d6, d7, d8, d9, d10, d11, d12, d13, d14⟩ := Box.c15 HX.out.1
  obtain ⟨c0, c1, c2, c3, c4, c5, c6, c7, c8, c9, c10, c11, c12, c13, c14⟩ := Box.c15 HX.out.2.1
  obtain ⟨f0, f1, f2, f3, f4, f5, f6, f7, f8, f9, f10, f11, f12, f13, f14⟩ := Box.f15 HX.out.2.1
  clear HX
  go_wp2_with fail
  refine bodyPost_ret (res_rt rfl _ _ w.heap.size [.int .i64 0, .slice none 0 0, .slice none 0 0, .int .i64 size, .int .i64 shift, .int .i64 wd, .int .u32 0, .bool stamps, .bool sacks, .int .i64 (-1), .bool false, .slice none 0 0, .int .u32 irs, .int .u32 own, .bool false] rfl rfl HF.out.1) rfl ?_
  exact ⟨rfl, HF.out.2⟩
end Go.Proofs.Ytkigcdmlkmcdcaa
