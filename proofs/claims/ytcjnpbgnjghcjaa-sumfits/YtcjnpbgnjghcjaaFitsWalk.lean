/- The walk of SumFits. -/
import Derived.Test.YtcjnpbgnjghcjaaOwn
import Derived.Test.YtcjnpbgnjghcjaaFit
namespace Go.Proofs.Ytcjnpbgnjghcjaa
open Go.ChangeShapes Go.WideShapes Go.ChangeAt Go.RowKit Go.Shelf
set_option linter.unusedVariables false

theorem even_place (n : Nat) (a Q : Int) (hn : 2 ≤ n) (h : (IntKind.u64.wrap a).tmod (↑n / 2) = Q) : ∃ k : Nat, Q * 2 = (k : Int) ∧ k % 2 = 0 ∧ k + 1 < n ∧ 0 ≤ Q ∧ Q < n := by
  have hw : 0 ≤ IntKind.u64.wrap a := by simp [IntKind.wrap, IntKind.bits, IntKind.signed]; omega
  rw [Int.tmod_eq_emod_of_nonneg hw] at h
  have h1 := Int.emod_nonneg (IntKind.u64.wrap a) (show (↑n / 2 : Int) ≠ 0 by omega)
  have h2 := Int.emod_lt_of_pos (IntKind.u64.wrap a) (show (0 : Int) < ↑n / 2 by omega)
  rw [h] at h1 h2
  exact ⟨(Q * 2).toNat, by omega, by omega, by omega, by omega, by omega⟩

theorem fits_short (a : Option Addr) (c : Nat) (bs : List Int) (at1 : Int) (w : World) (hs : bs.length < 2) :
    Calls Try.prog 5 #[.slice a bs.length c, .int .i64 at1] w fun e w' => e = .returned (.bool true) ∧ Below w.heap.size w w' := by
  go_enter Try.func5, Try.ntmps5
  go_wp2_with (go_at_call 15; refine (heads_any _).mono ?_; rintro e w' ⟨rfl, hB⟩)
  go_ret
  exact ⟨rfl, hB⟩

set_option maxRecDepth 100000 in
set_option maxHeartbeats 2000000 in
theorem fits_walk (b o c : Nat) (bs : List Int) (at1 : Int) (w : World) (hs : 2 ≤ bs.length) (h : BytesAt w (some ⟨b, o, none⟩) bs) (hr : bs.length ≤ 140737488351232) :
    Calls Try.prog 5 #[.slice (some ⟨b, o, none⟩) bs.length c, .int .i64 at1] w fun e w' => e = .returned (.bool true) ∧ Below w.heap.size w w' := by
  obtain ⟨i0, hi, hz0, hz1, hz2⟩ := info_parts Try.info5
  have o1 : (w.alloc (.cells #[] 5)).ownsRow w.heap.size 5 1 (.slice (some ⟨w.heap.size, 0, none⟩) 0 0) 0 [] := owns_new w w.heap.size (Nat.le_refl _) 5 [] (by decide)
  have h' := h.alloc (.cells #[] 5)
  have hml : bs.length ≤ maxLen := h.1
  obtain ⟨Q, hQ⟩ : ∃ Q, (IntKind.u64.wrap at1).tmod (↑bs.length / 2) = Q := ⟨_, rfl⟩
  obtain ⟨k, hk⟩ : ∃ k : Nat, Q * 2 = (k : Int) ∧ k % 2 = 0 ∧ k + 1 < bs.length ∧ 0 ≤ Q ∧ Q < bs.length := even_place bs.length at1 Q hs hQ
  obtain ⟨hk2, hkm, hkl, hQ0, hQ1⟩ := hk
  have HK : Hid (k % 2 = 0 ∧ k + 1 < bs.length) := ⟨hkm, hkl⟩
  clear hkm
  go_enter Try.func5, Try.ntmps5
  go_wp2_with (at_builtin; refine wpList_append_own _ rfl (.tmp 21) (.tmp 22) 24 rfl w.heap.size 5 i0 (.int .u8 0) 1 1 Try.underlying24 hi hz0 hz1 hz2 rfl (by decide) _ 0 [] rfl o1 ⟨b, o, none⟩ bs.length c (bs.map (Value.int .u8)) rfl (by simp) h'.news (ints_one _ _) (by simpa using hml) (by omega) (by simp) ?_; intro v1 w1 hown1 hg1 _; have hb1 : Below w.heap.size w w1 := below_append ((Below.refl _ w).alloc (Nat.le_refl _) _) (by simp) o1 hg1; rw [List.nil_append, Nat.zero_add] at hown1; obtain ⟨g, cc, rfl, _, hO⟩ := owns_of hown1 (by omega); clear hown1; have hc0 := hO.cell k (by omega); have hf0 := hO.frozen k; have hc1 := hO.cell (k + 1) hkl; have hf1 := hO.frozen (k + 1))
  have hO1 : Hid (Owns w1 w.heap.size g cc bs) := hO
  clear hO hc0 hf0 hc1 hf1 hg1
  obtain ⟨W2, hW2⟩ : ∃ W2, (w1.setCell ⟨g, k, none⟩ (.int .u8 0)).setCell ⟨g, k + 1, none⟩ (.int .u8 0) = W2 := ⟨_, rfl⟩
  rw [hW2]
  obtain ⟨b0, hb0⟩ : ∃ b0, (bs.set k 0).set (k + 1) 0 = b0 := ⟨_, rfl⟩
  have hl0 : b0.length = bs.length := by rw [← hb0]; simp
  have y0 : Byts b0 := by rw [← hb0]; exact byts_set (byts_set h.2.1 _ (by omega)) _ (by omega)
  have hO2 : Owns W2 w.heap.size g cc b0 := by rw [← hW2, ← hb0]; exact (hO1.out.set k 0).set (k + 1) 0
  have hs2 : W2.heap.size = w1.heap.size := by rw [← hW2]; simp
  have hb2 : Below w.heap.size w W2 := by rw [← hW2]; exact (hb1.setCell (p := ⟨g, k, none⟩) hO1.out.ge _).setCell (p := ⟨g, k + 1, none⟩) hO1.out.ge _
  have P1 := parts_one W2 (some ⟨g, 0, none⟩) b0 cc (hO2.bytes y0)
  rw [hs2, hl0] at P1
  refine (sum_any _ _ [b0] _ P1).mono ?_
  rintro e w3 ⟨he, hB3⟩
  obtain ⟨s, hs⟩ : ∃ s, sumI b0 = s := ⟨_, rfl⟩
  have hsb : 0 ≤ s ∧ s ≤ 65535 := by
    have := acc_bd y0
    unfold sumI at hs
    omega
  have he' : [b0].flatten = b0 := by simp
  rw [he', hs] at he
  subst he
  have hO3 : Owns w3 w.heap.size g cc b0 := (hO2.alloc _).below hB3 (Nat.le_refl _)
  have hb3 : Below w.heap.size w w3 := (hb2.alloc hb2.size _).trans (hB3.mono (by have := hb2.size; simp; omega))
  have hc0 := hO3.cell k (by omega)
  have hf0 := hO3.frozen k
  have hc1 := hO3.cell (k + 1) (by omega)
  have hf1 := hO3.frozen (k + 1)
  have X : Hid ((bs.set k 0).set (k + 1) 0 = b0 ∧ b0.length = bs.length ∧ Byts b0 ∧ sumI b0 = s ∧ Owns w3 w.heap.size g cc b0) := ⟨hb0, hl0, y0, hs, hO3⟩
  clear hb0 hl0 y0 hs hO3 hO2 hB3 P1 hW2 hs2 hb2 he'
  go_wp2_with fail
  clear hc0 hf0 hc1 hf1
  obtain ⟨e0, l0, y0, hs0, hO3⟩ := X.out
  obtain ⟨W4, hW4⟩ : ∃ W4, (w3.setCell ⟨g, k, none⟩ (.int .u8 (s / 256))).setCell ⟨g, k + 1, none⟩ (.int .u8 (s % 256)) = W4 := ⟨_, rfl⟩
  rw [hW4]
  obtain ⟨b1, hb1'⟩ : ∃ b1, (b0.set k (s / 256)).set (k + 1) (s % 256) = b1 := ⟨_, rfl⟩
  have l1 : b1.length = bs.length := by rw [← hb1', ← l0]; simp
  have y1 : Byts b1 := by rw [← hb1']; exact byts_set (byts_set y0 _ (by omega)) _ (by omega)
  have hO4 : Owns W4 w.heap.size g cc b1 := by rw [← hW4, ← hb1']; exact (hO3.set k _).set (k + 1) _
  have hs4 : W4.heap.size = w3.heap.size := by rw [← hW4]; simp
  have hb4 : Below w.heap.size w W4 := by rw [← hW4]; exact (hb3.setCell (p := ⟨g, k, none⟩) hO3.ge _).setCell (p := ⟨g, k + 1, none⟩) hO3.ge _
  have P2 := parts_one W4 (some ⟨g, 0, none⟩) b1 cc (hO4.bytes y1)
  rw [hs4, l1] at P2
  refine (valid_any _ _ [b1] _ P2).mono ?_
  rintro e w5 ⟨he, hB5⟩
  have hz := zero_at (bs := bs) (k := k) hkl
  rw [e0] at hz
  have hfit := fit_put y0 HK.out.1 (by rw [l0]; exact hkl) hz.1 hz.2 hs0
  have he' : (sumI [b1].flatten == 0) = true := by
    have : [b1].flatten = b1 := by simp
    rw [this, ← hb1', hfit]; rfl
  rw [he'] at he
  subst he
  have hb5 : Below w.heap.size w w5 := (hb4.alloc hb4.size _).trans (hB5.mono (by have := hb4.size; simp; omega))
  clear hz hfit he' hb1' l1 y1 hO4 hs4 hb4 P2 hB5 e0 l0 y0 hs0 hO3 X hW4
  go_wp2_with fail
  refine (heads_any _).mono ?_
  rintro e w' ⟨rfl, hB⟩
  go_wp2
  go_ret
  exact ⟨rfl, hb5.trans (hB.mono hb5.size)⟩
end Go.Proofs.Ytcjnpbgnjghcjaa
