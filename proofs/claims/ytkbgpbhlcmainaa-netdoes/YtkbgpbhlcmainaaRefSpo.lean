/- The contract of the document's Spoil. -/
import Derived.Test.YtkbgpbhlcmainaaCopy
import Derived.Test.YtkbgpbhlcmainaaSpoil
namespace Go.Proofs.Ytkbgpbhlcmainaa
open Go.ChangeShapes Go.WideShapes Go.ChangeAt Go.RowKit
set_option linter.unusedVariables false

set_option maxRecDepth 100000 in
set_option maxHeartbeats 2000000 in
theorem refSpoil_any (A : Option Addr) (n c : Nat) (l : List Dg) (k b : Int) (w : World) (hD : DatsAt w A n c l) (hk : I64 k) (hb : I64 b) (S : List Dg) (hS : spoL l k b = S) (m : Nat) (hm : S.length = m) (r : Int) (hr : spoE l k b = r) :
    Calls Try.prog 20 #[.slice A n c, .int .i64 k, .int .i64 b] w fun e w' => ∃ va vc, e = .returned (.tuple #[.slice va m vc, .int .i64 r]) ∧ DatsAt w' va m vc S ∧ Below w.heap.size w w' := by
  have hln := hD.len
  have hrc := hD.reach
  unfold I64 at hk
  cases hp : plB n k with
  | false =>
    obtain rfl : S = [] := by rw [← hS, spoL, hln, hp]; simp
    obtain rfl : r = 50 := by rw [← hr, spoE, hln, hp]; simp
    obtain rfl : m = 0 := by rw [← hm]; rfl
    rcases (show k < 0 ∨ (0 ≤ k ∧ (n : Int) ≤ k) from by simp [plB] at hp; omega) with h | ⟨h, h2⟩
    all_goals (
      clear hS hr hm hD hln hp
      go_enter Try.func20, Try.ntmps20
      go_wp2_with fail
      go_ret2
      exact ⟨none, 0, rfl, DatsAt.nil _, Below.refl _ _⟩)
  | true =>
    obtain ⟨j, rfl⟩ : ∃ j : Nat, k = (j : Int) := ⟨k.toNat, by simp [plB] at hp; omega⟩
    have hj : j < n := by simp [plB] at hp; exact hp
    have hj' : (j : Int) < (n : Int) := by omega
    obtain ⟨bb, o, x, rfl, hx, hok, hc0, hc1⟩ := hD.get j hj
    have hxl := hok.1.1
    have hS2 : spoL l (j : Int) b = if bitB x.bs.length b = true then l.set j (turnI x.bs b, x.t) else [] := by
      unfold spoL; rw [hln, hp, Int.toNat_natCast, hx, if_pos rfl]; rfl
    have hr2 : spoE l (j : Int) b = if bitB x.bs.length b = true then 0 else 2 := by
      unfold spoE; rw [hln, hp, Int.toNat_natCast, hx, if_pos rfl]; rfl
    unfold I64 at hb
    have hw8 : IntKind.i64.wrap (8 * (x.bs.length : Int)) = 8 * (x.bs.length : Int) := by rw [IntKind.wrap_i64]; omega
    cases hbit : bitB x.bs.length b with
    | false =>
      obtain rfl : S = [] := by rw [← hS, hS2, hbit]; simp
      obtain rfl : r = 2 := by rw [← hr, hr2, hbit]; simp
      obtain rfl : m = 0 := by rw [← hm]; rfl
      rcases (show b < 0 ∨ (0 ≤ b ∧ 8 * (x.bs.length : Int) ≤ b) from by simp [bitB] at hbit; omega) with h | ⟨h, h2⟩
      all_goals (
        clear hS hr hm hD hln hS2 hr2 hx hok hbit hp
        go_enter Try.func20, Try.ntmps20
        go_wp2_with fail
        go_ret2
        exact ⟨none, 0, rfl, DatsAt.nil _, Below.refl _ _⟩)
    | true =>
      have hSl : S = l.set j (turnI x.bs b, x.t) := by rw [← hS, hS2, hbit]; simp
      obtain rfl : r = 0 := by rw [← hr, hr2, hbit]; simp
      obtain rfl : m = n := by rw [← hm, hSl]; simp [hln]
      have hbd : 0 ≤ b ∧ b < 8 * (x.bs.length : Int) := by simpa [bitB] using hbit
      obtain ⟨h, h2⟩ := hbd
      obtain ⟨y, z, hy, hyb, htu, hxor, hz, _, _⟩ := turn_at hok.1.2.1 (show 0 ≤ b ∧ b < 8 * (x.bs.length : Int) from ⟨h, h2⟩)
      obtain ⟨q, hq⟩ : ∃ q, b.toNat / 8 = q := ⟨_, rfl⟩
      obtain ⟨t, ht⟩ : ∃ t, b.toNat % 8 = t := ⟨_, rfl⟩
      rw [hq] at hy htu
      rw [ht] at hxor
      have hq1 : b / 8 = (q : Int) := by omega
      have hq2 : b.tdiv 8 = (q : Int) := by rw [Int.tdiv_eq_ediv_of_nonneg h]; exact hq1
      have ht1 : b % 8 = (t : Int) := by omega
      have ht2 : b.tmod 8 = (t : Int) := by rw [Int.tmod_eq_emod_of_nonneg h]; exact ht1
      have ht8 : t < 8 := by omega
      have hql : q < x.bs.length := by omega
      have hql' : (q : Int) < (x.bs.length : Int) := by omega
      have cR := copy_any (some ⟨bb, o, none⟩) m c l w hD
      have HS : Hid (S = l.set j (x.bs.set q z, x.t) ∧ (0 ≤ z ∧ z ≤ 255) ∧ l[j]?.getD z0 = x.dg ∧ x.bs[q]? = some y) := ⟨by rw [hSl, htu], hz, hx, hy⟩
      clear hS hr hm hD hln hS2 hr2 hx hok hbit hp hSl htu hz hy hq ht
      go_enter Try.func20, Try.ntmps20
      go_wp2_with fail
      refine cR.mono ?_
      rintro e w2 ⟨va, vc, rfl, hT, hB⟩
      obtain ⟨g, g2, yc, rfl, k0, k1, f1, hg2, hfin⟩ := hT.spoil j q hj x.dg HS.out.2.2.1 hql
      have HF : Hid (Below w.heap.size w w2 ∧ w.heap.size ≤ g2 ∧ DatsAt (w2.setCell ⟨g2, q, none⟩ (.int .u8 z)) (some ⟨g, 0, none⟩) m vc S) := ⟨hB, hg2, by rw [HS.out.1]; exact hfin z HS.out.2.1⟩
      have k1' : w2.cell? ⟨g2, q, none⟩ = some (.int .u8 y) := by rw [k1]; simp [En.dg, HS.out.2.2.2]
      have k0' : w2.cell? ⟨g, j * 2, none⟩ = some (.slice (some ⟨g2, 0, none⟩) x.bs.length yc) := k0
      clear cR hT hB hg2 hfin k0 k1 hc0 hc1
      go_wp2_with fail
      go_ret2
      exact ⟨_, vc, rfl, HF.out.2.2, HF.out.1.setCell (p := ⟨g2, q, none⟩) HF.out.2.1 _⟩
end Go.Proofs.Ytkbgpbhlcmainaa
