/- The walk of SumTells. -/
import Derived.Test.YtcjnpbgnjghcjaaOwn
import Derived.Test.YtcjnpbgnjghcjaaFit
import Derived.Laws.AppendOwnNone
namespace Go.Proofs.Ytcjnpbgnjghcjaa
open Go.ChangeShapes Go.WideShapes Go.ChangeAt Go.RowKit Go.Shelf
set_option linter.unusedVariables false

theorem owns_kept {w : World} {B n : Nat} {v : Value} {bs : List Int} (h : w.ownsRow B 5 1 v n (bs.map (Value.int .u8))) (h0 : v ≠ .slice none 0 0) : ∃ g c, v = .slice (some ⟨g, 0, none⟩) n c ∧ bs.length = n ∧ Owns w B g c bs := by
  have hl : bs.length = n := by have := h.1; simpa using this
  rcases h.2 with ⟨rfl, h'⟩ | ⟨g, c, cur, rfl, r⟩
  · exact absurd rfl h0
  · subst hl
    exact ⟨g, c, rfl, rfl, h⟩

theorem bit_place (k : Nat) (bit K : Int) (h : (IntKind.u64.wrap bit).tmod (8 * (↑k + 2)) = K) : ∃ p j : Nat, K / 8 = (p : Int) ∧ K % 8 = (j : Int) ∧ p < k + 2 ∧ j < 8 ∧ 0 ≤ K ∧ K < 8 * (↑k + 2) := by
  have hw : 0 ≤ IntKind.u64.wrap bit := by simp [IntKind.wrap, IntKind.bits, IntKind.signed]; omega
  rw [Int.tmod_eq_emod_of_nonneg hw] at h
  have h1 := Int.emod_nonneg (IntKind.u64.wrap bit) (show (8 * (↑k + 2) : Int) ≠ 0 by omega)
  have h2 := Int.emod_lt_of_pos (IntKind.u64.wrap bit) (show (0 : Int) < 8 * (↑k + 2) by omega)
  rw [h] at h1 h2
  exact ⟨(K / 8).toNat, (K % 8).toNat, by omega, by omega, by omega, by omega, by omega, by omega⟩

theorem xor_all : ∀ (a : Fin 256) (b : Fin 8), 0 ≤ bits BinOp.xor IntKind.u8 (a.val : Int) ((2 : Int) ^ b.val % 256) ∧ bits BinOp.xor IntKind.u8 (a.val : Int) ((2 : Int) ^ b.val % 256) ≤ 255 ∧
    (bits BinOp.xor IntKind.u8 (a.val : Int) ((2 : Int) ^ b.val % 256) - (a.val : Int) = 2 ^ b.val ∨ bits BinOp.xor IntKind.u8 (a.val : Int) ((2 : Int) ^ b.val % 256) - (a.val : Int) = -(2 ^ b.val)) := by
  decide +kernel

theorem xor_turns (y : Int) (j : Nat) (hy : 0 ≤ y ∧ y ≤ 255) (hj : j < 8) (z : Int) (hz : bits BinOp.xor IntKind.u8 y ((2 : Int) ^ j % 256) = z) : (0 ≤ z ∧ z ≤ 255) ∧ (z - y = 2 ^ j ∨ z - y = -(2 ^ j)) := by
  have h := xor_all ⟨y.toNat, by omega⟩ ⟨j, hj⟩
  have e : ((y.toNat : Nat) : Int) = y := by omega
  simp only [e, hz] at h
  exact ⟨⟨h.1, h.2.1⟩, h.2.2⟩

theorem arm_len {len m k : Nat} (hr : len ≤ 140737488351232) (hm : len + 1 = m) (hk : k = m ∨ k = m + 1) : k + 2 ≤ 140737488351236 := by omega

set_option maxRecDepth 100000 in
set_option maxHeartbeats 2000000 in
theorem tells_walk (x : Addr) (c : Nat) (bs : List Int) (bit : Int) (w : World) (h : BytesAt w (some x) bs) (hn : ∀ j u, (bs.map (Value.int .u8))[j]? = some u → w.cell? (x.add j) = some u) (hr : bs.length ≤ 140737488351232) :
    Calls Try.prog 6 #[.slice (some x) bs.length c, .int .i64 bit] w fun e w' => e = .returned (.bool true) ∧ Below w.heap.size w w' := by
  obtain ⟨i0, hi, hz0, hz1, hz2⟩ := info_parts Try.info5
  have o1 : (w.alloc (.cells #[] 5)).ownsRow w.heap.size 5 1 (.slice (some ⟨w.heap.size, 0, none⟩) 0 0) 0 [] := owns_new w w.heap.size (Nat.le_refl _) 5 [] (by decide)
  have hn' : ∀ j u, (bs.map (Value.int .u8))[j]? = some u → (w.alloc (.cells #[] 5)).cell? (x.add j) = some u := fun j u hj => by
    have := hn j u hj
    exact (((Below.refl _ w).alloc (Nat.le_refl _) (.cells #[] 5)).cell (lt_of_cell this)).trans this
  obtain ⟨len, hlen⟩ : ∃ len, bs.length = len := ⟨_, rfl⟩
  rw [hlen] at hr ⊢
  have Hlen : Hid (bs.length = len) := hlen
  have Hn : Hid (∀ j u, (bs.map (Value.int .u8))[j]? = some u → (w.alloc (.cells #[] 5)).cell? (x.add j) = some u) := hn'
  have Hy : Hid (Byts bs) := h.2.1
  clear hn hn' hlen h
  obtain ⟨m, hm⟩ : ∃ m, len + 1 = m := ⟨_, rfl⟩
  have hmb : m ≤ 140737488351233 := by omega
  have HM : Hid (len + 1 = m) := hm
  obtain ⟨k, hk⟩ : ∃ k, (m % 2 = 1 ∧ m + 1 = k) ∨ (m % 2 = 0 ∧ k = m) := by
    rcases Nat.mod_two_eq_zero_or_one m with h | h
    · exact ⟨m, .inr ⟨h, rfl⟩⟩
    · exact ⟨m + 1, .inl ⟨h, rfl⟩⟩
  have hke : k % 2 = 0 := by omega
  have Hke : Hid (k % 2 = 0 ∧ 1 ≤ len + 1) := ⟨hke, by omega⟩
  have hkb : k + 2 ≤ 140737488351236 := by omega
  have hm1 : 1 ≤ m := by omega
  have hk1 : 1 ≤ k := by omega
  clear hke
  rcases hk with ⟨hmo, hk⟩ | ⟨hmo, rfl⟩
  case' inl =>
    have hpar : ((m : Int) % 2 == 1) = true := by simp; omega
    have HK : Hid (m + 1 = k) := hk
    clear hm hk hmo
    go_enter Try.func6, Try.ntmps6
    go_wp2_with (first
      | (at_builtin; refine wpList_append_own _ rfl (.tmp 8) (.tmp 9) 24 rfl w.heap.size 5 i0 (.int .u8 0) 1 1 Try.underlying24 hi hz0 hz1 hz2 rfl (by decide) _ 0 [] rfl o1 x len c (bs.map (Value.int .u8)) rfl (by simpa using Hlen.out) Hn.out (ints_one _ _) (by unfold maxLen; omega) (by omega) (by simp) ?_; intro v1 w1 hown1 hg1 hv1; have hb1 : Below w.heap.size w w1 := below_append ((Below.refl _ w).alloc (Nat.le_refl _) _) (by simp) o1 hg1; rw [List.nil_append, Nat.zero_add] at hown1; obtain ⟨g1, c1, rfl, _, hO1⟩ := owns_kept hown1 (by intro e; have := (hv1.1 e).1; simp [Act.eval] at this); clear hv1)
      | (at_builtin; refine wpList_append_own _ rfl (.tmp 10) (.tmp 11) 24 rfl w.heap.size 5 i0 (.int .u8 0) 1 1 Try.underlying24 hi hz0 hz1 hz2 rfl (by decide) _ len _ rfl (hown1.alloc _) ⟨w1.heap.size, 0, none⟩ 1 1 ([0].map (Value.int .u8)) rfl rfl (cells_new w1 ([0].map (Value.int .u8)) 5) (ints_one _ _) (by unfold maxLen; omega) (by omega) (by have := hb1.size; simp; omega) ?_; intro v2 w2 hown2 hg2 _; have hb2 : Below w.heap.size w w2 := below_append (hb1.alloc hb1.size _) (by have := hb1.size; simp; omega) (hown1.alloc _) hg2; rw [← List.map_append, HM.out] at hown2; obtain ⟨g2, c2, rfl, _, hO2⟩ := owns_of hown2 (by omega))
      | (at_builtin; refine wpList_append_own _ rfl (.tmp 17) (.tmp 18) 24 rfl w.heap.size 5 i0 (.int .u8 0) 1 1 Try.underlying24 hi hz0 hz1 hz2 rfl (by decide) _ m _ rfl (hown2.alloc _) ⟨w2.heap.size, 0, none⟩ 1 1 ([0].map (Value.int .u8)) rfl rfl (cells_new w2 ([0].map (Value.int .u8)) 5) (ints_one _ _) (by unfold maxLen; omega) (by omega) (by have := hb2.size; simp; omega) ?_; intro v3 w3 hown3 hg3 _; have hb3 : Below w.heap.size w w3 := below_append (hb2.alloc hb2.size _) (by have := hb2.size; simp; omega) (hown2.alloc _) hg3; rw [← List.map_append, HK.out] at hown3; obtain ⟨g3, c3, rfl, _, hO3⟩ := owns_of hown3 (by omega))
      | (at_builtin; refine wpList_append_own _ rfl (.tmp 20) (.tmp 21) 24 rfl w.heap.size 5 i0 (.int .u8 0) 1 1 Try.underlying24 hi hz0 hz1 hz2 rfl (by decide) _ k _ rfl (hown3.alloc _) ⟨w3.heap.size, 0, none⟩ 2 2 ([0, 0].map (Value.int .u8)) rfl rfl (cells_new w3 ([0, 0].map (Value.int .u8)) 5) (ints_one _ _) (by unfold maxLen; omega) (by omega) (by have := hb3.size; simp; omega) ?_; intro v4 w4 hown4 hg4 _; have hb4 : Below w.heap.size w w4 := below_append (hb3.alloc hb3.size _) (by have := hb3.size; simp; omega) (hown3.alloc _) hg4; rw [← List.map_append] at hown4; obtain ⟨g4, c4, rfl, hl4, hO4⟩ := owns_of hown4 (by omega)))
    obtain ⟨pre, hpre⟩ : ∃ pre, bs ++ [0] ++ [0] = pre := ⟨_, rfl⟩
    have hprel : pre.length = k := by rw [← hpre]; have := Hlen.out; have := HM.out; have := HK.out; simp; omega
    have hprey : Byts pre := by rw [← hpre]; exact byts_append (byts_append Hy.out (by unfold Byts; decide)) (by unfold Byts; decide)
    rw [hpre] at hO4
    clear hpre hl4 hown1 hown2 hown3 hown4 hg1 hg2 hg3 hg4 hO1 hO2 hO3 hb1 hb2 hb3
  case' inr =>
    have hpar : ((k : Int) % 2 == 1) = false := by simp; omega
    clear hm hmo
    go_enter Try.func6, Try.ntmps6
    go_wp2_with (first
      | (at_builtin; refine wpList_append_own _ rfl (.tmp 8) (.tmp 9) 24 rfl w.heap.size 5 i0 (.int .u8 0) 1 1 Try.underlying24 hi hz0 hz1 hz2 rfl (by decide) _ 0 [] rfl o1 x len c (bs.map (Value.int .u8)) rfl (by simpa using Hlen.out) Hn.out (ints_one _ _) (by unfold maxLen; omega) (by omega) (by simp) ?_; intro v1 w1 hown1 hg1 hv1; have hb1 : Below w.heap.size w w1 := below_append ((Below.refl _ w).alloc (Nat.le_refl _) _) (by simp) o1 hg1; rw [List.nil_append, Nat.zero_add] at hown1; obtain ⟨g1, c1, rfl, _, hO1⟩ := owns_kept hown1 (by intro e; have := (hv1.1 e).1; simp [Act.eval] at this); clear hv1)
      | (at_builtin; refine wpList_append_own _ rfl (.tmp 10) (.tmp 11) 24 rfl w.heap.size 5 i0 (.int .u8 0) 1 1 Try.underlying24 hi hz0 hz1 hz2 rfl (by decide) _ len _ rfl (hown1.alloc _) ⟨w1.heap.size, 0, none⟩ 1 1 ([0].map (Value.int .u8)) rfl rfl (cells_new w1 ([0].map (Value.int .u8)) 5) (ints_one _ _) (by unfold maxLen; omega) (by omega) (by have := hb1.size; simp; omega) ?_; intro v2 w2 hown2 hg2 _; have hb2 : Below w.heap.size w w2 := below_append (hb1.alloc hb1.size _) (by have := hb1.size; simp; omega) (hown1.alloc _) hg2; rw [← List.map_append, HM.out] at hown2; obtain ⟨g2, c2, rfl, _, hO2⟩ := owns_of hown2 (by omega))
      | (at_builtin; refine wpList_append_own _ rfl (.tmp 20) (.tmp 21) 24 rfl w.heap.size 5 i0 (.int .u8 0) 1 1 Try.underlying24 hi hz0 hz1 hz2 rfl (by decide) _ k _ rfl (hown2.alloc _) ⟨w2.heap.size, 0, none⟩ 2 2 ([0, 0].map (Value.int .u8)) rfl rfl (cells_new w2 ([0, 0].map (Value.int .u8)) 5) (ints_one _ _) (by unfold maxLen; omega) (by omega) (by have := hb2.size; simp; omega) ?_; intro v4 w4 hown4 hg4 _; have hb4 : Below w.heap.size w w4 := below_append (hb2.alloc hb2.size _) (by have := hb2.size; simp; omega) (hown2.alloc _) hg4; rw [← List.map_append] at hown4; obtain ⟨g4, c4, rfl, hl4, hO4⟩ := owns_of hown4 (by omega)))
    obtain ⟨pre, hpre⟩ : ∃ pre, bs ++ [0] = pre := ⟨_, rfl⟩
    have hprel : pre.length = k := by rw [← hpre]; have := Hlen.out; have := HM.out; simp; omega
    have hprey : Byts pre := by rw [← hpre]; exact byts_append Hy.out (by unfold Byts; decide)
    rw [hpre] at hO4
    clear hpre hl4 hown1 hown2 hown4 hg1 hg2 hg4 hO1 hO2 hb1 hb2
  all_goals (
    obtain ⟨b0, hb0⟩ : ∃ b0, pre ++ [0, 0] = b0 := ⟨_, rfl⟩
    have hl0 : b0.length = k + 2 := by rw [← hb0]; simp [hprel]
    have y0 : Byts b0 := by rw [← hb0]; exact byts_append hprey (by unfold Byts; decide)
    have z0 : b0[k]?.getD 0 = 0 ∧ b0[k + 1]?.getD 0 = 0 := by
      rw [← hb0, ← hprel]
      simp
    rw [hb0] at hO4
    have P1 := parts_one w4 (some ⟨g4, 0, none⟩) b0 c4 (hO4.bytes y0)
    rw [hl0] at P1
    refine (sum_any _ _ [b0] _ P1).mono ?_
    rintro e w5 ⟨he, hB5⟩
    obtain ⟨s, hs⟩ : ∃ s, sumI b0 = s := ⟨_, rfl⟩
    have hsb : 0 ≤ s ∧ s ≤ 65535 := by
      have := acc_bd y0
      unfold sumI at hs
      omega
    have he' : [b0].flatten = b0 := by simp
    rw [he', hs] at he
    subst he
    have hO5 : Owns w5 w.heap.size g4 c4 b0 := (hO4.alloc _).below hB5 (Nat.le_refl _)
    have hb5 : Below w.heap.size w w5 := (hb4.alloc hb4.size _).trans (hB5.mono (by have := hb4.size; simp; omega))
    have hc0 := hO5.cell k (by omega)
    have hf0 := hO5.frozen k
    have hc1 := hO5.cell (k + 1) (by omega)
    have hf1 := hO5.frozen (k + 1)
    have X : Hid (b0.length = k + 2 ∧ Byts b0 ∧ (b0[k]?.getD 0 = 0 ∧ b0[k + 1]?.getD 0 = 0) ∧ sumI b0 = s ∧ Owns w5 w.heap.size g4 c4 b0) := ⟨hl0, y0, z0, hs, hO5⟩
    clear hl0 y0 z0 hs hO5 hO4 hB5 P1 he' hprel hprey hb0
    go_wp2_with fail
    clear hc0 hf0 hc1 hf1
    obtain ⟨l0, y0, z0, hs0, hO5⟩ := X.out
    obtain ⟨W6, hW6⟩ : ∃ W6, (w5.setCell ⟨g4, k, none⟩ (.int .u8 (s / 256))).setCell ⟨g4, k + 1, none⟩ (.int .u8 (s % 256)) = W6 := ⟨_, rfl⟩
    rw [hW6]
    obtain ⟨b1, hb1'⟩ : ∃ b1, (b0.set k (s / 256)).set (k + 1) (s % 256) = b1 := ⟨_, rfl⟩
    have l1 : b1.length = k + 2 := by rw [← hb1', ← l0]; simp
    have y1 : Byts b1 := by rw [← hb1']; exact byts_set (byts_set y0 _ (by omega)) _ (by omega)
    have hO6 : Owns W6 w.heap.size g4 c4 b1 := by rw [← hW6, ← hb1']; exact (hO5.set k _).set (k + 1) _
    have hs6 : W6.heap.size = w5.heap.size := by rw [← hW6]; simp
    have hb6 : Below w.heap.size w W6 := by rw [← hW6]; exact (hb5.setCell (p := ⟨g4, k, none⟩) hO5.ge _).setCell (p := ⟨g4, k + 1, none⟩) hO5.ge _
    have P2 := parts_one W6 (some ⟨g4, 0, none⟩) b1 c4 (hO6.bytes y1)
    rw [hs6, l1] at P2
    refine (valid_any _ _ [b1] _ P2).mono ?_
    rintro e w7 ⟨he, hB7⟩
    have hfit := fit_put y0 Hke.out.1 (by rw [l0]; omega) z0.1 z0.2 hs0
    rw [hb1'] at hfit
    have he' : (sumI [b1].flatten == 0) = true := by
      have : [b1].flatten = b1 := by simp
      rw [this, hfit]; rfl
    rw [he'] at he
    subst he
    have hO7 : Owns w7 w.heap.size g4 c4 b1 := (hO6.alloc _).below hB7 (Nat.le_refl _)
    have hb7 : Below w.heap.size w w7 := (hb6.alloc hb6.size _).trans (hB7.mono (by have := hb6.size; simp; omega))
    obtain ⟨K, hK⟩ : ∃ K, (IntKind.u64.wrap bit).tmod (8 * (↑k + 2)) = K := ⟨_, rfl⟩
    obtain ⟨p, j, hp, hj, hpk, hj8, hK0, hK1⟩ := bit_place k bit K hK
    obtain ⟨y, hy⟩ : ∃ y, b1[p]?.getD 0 = y := ⟨_, rfl⟩
    have hyb := byts_get y1 p (by omega)
    rw [hy] at hyb
    have hcp := hO7.cell p (by omega)
    rw [hy] at hcp
    have hfp := hO7.frozen p
    have Y : Hid (b1.length = k + 2 ∧ Byts b1 ∧ sumI b1 = 0 ∧ b1[p]?.getD 0 = y ∧ Owns w7 w.heap.size g4 c4 b1) := ⟨l1, y1, hfit, hy, hO7⟩
    clear hy
    clear hfit he' hb1' l1 y1 hO6 hs6 hb6 P2 hB7 l0 y0 z0 hs0 hO5 X hW6 hO7
    go_wp2_with fail
    clear hcp hfp
    obtain ⟨z, hz⟩ : ∃ z, bits BinOp.xor IntKind.u8 y ((2 : Int) ^ j % 256) = z := ⟨_, rfl⟩
    rw [hz]
    obtain ⟨hzb, hzy⟩ := xor_turns y j hyb hj8 z hz
    obtain ⟨l1, y1, hfit, hy, hO7⟩ := Y.out
    obtain ⟨W8, hW8⟩ : ∃ W8, w7.setCell ⟨g4, p, none⟩ (.int .u8 z) = W8 := ⟨_, rfl⟩
    rw [hW8]
    obtain ⟨b2, hb2'⟩ : ∃ b2, b1.set p z = b2 := ⟨_, rfl⟩
    have l2 : b2.length = k + 2 := by rw [← hb2', ← l1]; simp
    have y2 : Byts b2 := by rw [← hb2']; exact byts_set y1 _ hzb
    have hO8 : Owns W8 w.heap.size g4 c4 b2 := by rw [← hW8, ← hb2']; exact hO7.set p z
    have hs8 : W8.heap.size = w7.heap.size := by rw [← hW8]; simp
    have hb8 : Below w.heap.size w W8 := by rw [← hW8]; exact hb7.setCell (p := ⟨g4, p, none⟩) hO7.ge _
    have P3 := parts_one W8 (some ⟨g4, 0, none⟩) b2 c4 (hO8.bytes y2)
    rw [hs8, l2] at P3
    refine (valid_any _ _ [b2] _ P3).mono ?_
    rintro e w9 ⟨he, hB9⟩
    have htold := turned_told y1 hfit (p := p) (by omega) (x := z) hzb hj8 (by rw [hy]; exact hzy)
    rw [hb2'] at htold
    have he' : (sumI [b2].flatten == 0) = false := by
      have : [b2].flatten = b2 := by simp
      rw [this]; exact htold
    rw [he'] at he
    subst he
    have hb9 : Below w.heap.size w w9 := (hb8.alloc hb8.size _).trans (hB9.mono (by have := hb8.size; simp; omega))
    clear htold he' hb2' l2 y2 hO8 hs8 hb8 P3 hB9 l1 y1 hfit hy hO7 Y hW8 hz hzb hzy
    go_wp2_with fail
    refine (heads_any _).mono ?_
    rintro e w' ⟨rfl, hB⟩
    go_wp2
    go_ret
    exact ⟨rfl, hb9.trans (hB.mono hb9.size)⟩)
set_option maxRecDepth 100000 in
set_option maxHeartbeats 2000000 in
/-- .. at the nil slice. -/
theorem tells_nil (bit : Int) (w : World) :
    Calls Try.prog 6 #[.slice none 0 0, .int .i64 bit] w fun e w' => e = .returned (.bool true) ∧ Below w.heap.size w w' := by
  obtain ⟨i0, hi, hz0, hz1, hz2⟩ := info_parts Try.info5
  have o1 : (w.alloc (.cells #[] 5)).ownsRow w.heap.size 5 1 (.slice (some ⟨w.heap.size, 0, none⟩) 0 0) 0 [] := owns_new w w.heap.size (Nat.le_refl _) 5 [] (by decide)
  have hcn := cells_new (w.alloc (.cells #[] 5)) ([0].map (Value.int .u8)) 5
  rw [World.size_alloc] at hcn
  have Hcn : Hid (∀ (j : Nat) (u : Value), ([0].map (Value.int .u8))[j]? = some u → ((w.alloc (.cells #[] 5)).alloc (.cells ([0].map (Value.int .u8)).toArray 5)).cell? ((⟨w.heap.size + 1, 0, none⟩ : Addr).add j) = some u) := hcn
  clear hcn
  obtain ⟨m, hm⟩ : ∃ m, 0 + 1 = m := ⟨_, rfl⟩
  have HM : Hid (0 + 1 = m) := hm
  obtain ⟨k, hk⟩ : ∃ k, m + 1 = k := ⟨_, rfl⟩
  have HK : Hid (m + 1 = k) := hk
  have hmb : m ≤ 140737488351233 := by omega
  have Hke : Hid (k % 2 = 0 ∧ 1 ≤ 1) := ⟨by omega, by omega⟩
  have hkb : k + 2 ≤ 140737488351236 := by omega
  have hm1 : 1 ≤ m := by omega
  have hk1 : 1 ≤ k := by omega
  have hpar : ((m : Int) % 2 == 1) = true := by simp; omega
  clear hm hk
  go_enter Try.func6, Try.ntmps6
  go_wp2_with (first
    | (at_builtin; refine wpList_append_own_none rfl (.tmp 8) (.tmp 9) 24 rfl w.heap.size 5 i0 1 Try.underlying24 hi _ 0 [] rfl o1 rfl ?_)
    | (at_builtin; refine wpList_append_own _ rfl (.tmp 10) (.tmp 11) 24 rfl w.heap.size 5 i0 (.int .u8 0) 1 1 Try.underlying24 hi hz0 hz1 hz2 rfl (by decide) _ 0 [] rfl (o1.alloc _) ⟨w.heap.size + 1, 0, none⟩ 1 1 ([0].map (Value.int .u8)) rfl rfl Hcn.out (ints_one _ _) (by decide) (by decide) (by simp; omega) ?_; intro v2 w2 hown2 hg2 _; have hb2 : Below w.heap.size w w2 := below_append (((Below.refl _ w).alloc (Nat.le_refl _) _).alloc (by simp) _) (by simp; omega) (o1.alloc _) hg2; rw [List.nil_append, HM.out] at hown2; obtain ⟨g2, c2, rfl, _, hO2⟩ := owns_of hown2 (by omega))
    | (at_builtin; refine wpList_append_own _ rfl (.tmp 17) (.tmp 18) 24 rfl w.heap.size 5 i0 (.int .u8 0) 1 1 Try.underlying24 hi hz0 hz1 hz2 rfl (by decide) _ m _ rfl (hown2.alloc _) ⟨w2.heap.size, 0, none⟩ 1 1 ([0].map (Value.int .u8)) rfl rfl (cells_new w2 ([0].map (Value.int .u8)) 5) (ints_one _ _) (by unfold maxLen; omega) (by omega) (by have := hb2.size; simp; omega) ?_; intro v3 w3 hown3 hg3 _; have hb3 : Below w.heap.size w w3 := below_append (hb2.alloc hb2.size _) (by have := hb2.size; simp; omega) (hown2.alloc _) hg3; rw [← List.map_append, HK.out] at hown3; obtain ⟨g3, c3, rfl, _, hO3⟩ := owns_of hown3 (by omega))
    | (at_builtin; refine wpList_append_own _ rfl (.tmp 20) (.tmp 21) 24 rfl w.heap.size 5 i0 (.int .u8 0) 1 1 Try.underlying24 hi hz0 hz1 hz2 rfl (by decide) _ k _ rfl (hown3.alloc _) ⟨w3.heap.size, 0, none⟩ 2 2 ([0, 0].map (Value.int .u8)) rfl rfl (cells_new w3 ([0, 0].map (Value.int .u8)) 5) (ints_one _ _) (by unfold maxLen; omega) (by omega) (by have := hb3.size; simp; omega) ?_; intro v4 w4 hown4 hg4 _; have hb4 : Below w.heap.size w w4 := below_append (hb3.alloc hb3.size _) (by have := hb3.size; simp; omega) (hown3.alloc _) hg4; rw [← List.map_append] at hown4; obtain ⟨g4, c4, rfl, hl4, hO4⟩ := owns_of hown4 (by omega)))
  obtain ⟨pre, hpre⟩ : ∃ pre, [(0 : Int)] ++ [0] = pre := ⟨_, rfl⟩
  have hprel : pre.length = k := by rw [← hpre]; have := HM.out; have := HK.out; simp; omega
  have hprey : Byts pre := by rw [← hpre]; unfold Byts; decide
  rw [hpre] at hO4
  clear hpre hl4 hown2 hown3 hown4 hg2 hg3 hg4 hO2 hO3 hb2 hb3
  obtain ⟨b0, hb0⟩ : ∃ b0, pre ++ [0, 0] = b0 := ⟨_, rfl⟩
  have hl0 : b0.length = k + 2 := by rw [← hb0]; simp [hprel]
  have y0 : Byts b0 := by rw [← hb0]; exact byts_append hprey (by unfold Byts; decide)
  have z0 : b0[k]?.getD 0 = 0 ∧ b0[k + 1]?.getD 0 = 0 := by
    rw [← hb0, ← hprel]
    simp
  rw [hb0] at hO4
  have P1 := parts_one w4 (some ⟨g4, 0, none⟩) b0 c4 (hO4.bytes y0)
  rw [hl0] at P1
  refine (sum_any _ _ [b0] _ P1).mono ?_
  rintro e w5 ⟨he, hB5⟩
  obtain ⟨s, hs⟩ : ∃ s, sumI b0 = s := ⟨_, rfl⟩
  have hsb : 0 ≤ s ∧ s ≤ 65535 := by
    have := acc_bd y0
    unfold sumI at hs
    omega
  have he' : [b0].flatten = b0 := by simp
  rw [he', hs] at he
  subst he
  have hO5 : Owns w5 w.heap.size g4 c4 b0 := (hO4.alloc _).below hB5 (Nat.le_refl _)
  have hb5 : Below w.heap.size w w5 := (hb4.alloc hb4.size _).trans (hB5.mono (by have := hb4.size; simp; omega))
  have hc0 := hO5.cell k (by omega)
  have hf0 := hO5.frozen k
  have hc1 := hO5.cell (k + 1) (by omega)
  have hf1 := hO5.frozen (k + 1)
  have X : Hid (b0.length = k + 2 ∧ Byts b0 ∧ (b0[k]?.getD 0 = 0 ∧ b0[k + 1]?.getD 0 = 0) ∧ sumI b0 = s ∧ Owns w5 w.heap.size g4 c4 b0) := ⟨hl0, y0, z0, hs, hO5⟩
  clear hl0 y0 z0 hs hO5 hO4 hB5 P1 he' hprel hprey hb0
  go_wp2_with fail
  clear hc0 hf0 hc1 hf1
  obtain ⟨l0, y0, z0, hs0, hO5⟩ := X.out
  obtain ⟨W6, hW6⟩ : ∃ W6, (w5.setCell ⟨g4, k, none⟩ (.int .u8 (s / 256))).setCell ⟨g4, k + 1, none⟩ (.int .u8 (s % 256)) = W6 := ⟨_, rfl⟩
  rw [hW6]
  obtain ⟨b1, hb1'⟩ : ∃ b1, (b0.set k (s / 256)).set (k + 1) (s % 256) = b1 := ⟨_, rfl⟩
  have l1 : b1.length = k + 2 := by rw [← hb1', ← l0]; simp
  have y1 : Byts b1 := by rw [← hb1']; exact byts_set (byts_set y0 _ (by omega)) _ (by omega)
  have hO6 : Owns W6 w.heap.size g4 c4 b1 := by rw [← hW6, ← hb1']; exact (hO5.set k _).set (k + 1) _
  have hs6 : W6.heap.size = w5.heap.size := by rw [← hW6]; simp
  have hb6 : Below w.heap.size w W6 := by rw [← hW6]; exact (hb5.setCell (p := ⟨g4, k, none⟩) hO5.ge _).setCell (p := ⟨g4, k + 1, none⟩) hO5.ge _
  have P2 := parts_one W6 (some ⟨g4, 0, none⟩) b1 c4 (hO6.bytes y1)
  rw [hs6, l1] at P2
  refine (valid_any _ _ [b1] _ P2).mono ?_
  rintro e w7 ⟨he, hB7⟩
  have hfit := fit_put y0 Hke.out.1 (by rw [l0]; omega) z0.1 z0.2 hs0
  rw [hb1'] at hfit
  have he' : (sumI [b1].flatten == 0) = true := by
    have : [b1].flatten = b1 := by simp
    rw [this, hfit]; rfl
  rw [he'] at he
  subst he
  have hO7 : Owns w7 w.heap.size g4 c4 b1 := (hO6.alloc _).below hB7 (Nat.le_refl _)
  have hb7 : Below w.heap.size w w7 := (hb6.alloc hb6.size _).trans (hB7.mono (by have := hb6.size; simp; omega))
  obtain ⟨K, hK⟩ : ∃ K, (IntKind.u64.wrap bit).tmod (8 * (↑k + 2)) = K := ⟨_, rfl⟩
  obtain ⟨p, j, hp, hj, hpk, hj8, hK0, hK1⟩ := bit_place k bit K hK
  obtain ⟨y, hy⟩ : ∃ y, b1[p]?.getD 0 = y := ⟨_, rfl⟩
  have hyb := byts_get y1 p (by omega)
  rw [hy] at hyb
  have hcp := hO7.cell p (by omega)
  rw [hy] at hcp
  have hfp := hO7.frozen p
  have Y : Hid (b1.length = k + 2 ∧ Byts b1 ∧ sumI b1 = 0 ∧ b1[p]?.getD 0 = y ∧ Owns w7 w.heap.size g4 c4 b1) := ⟨l1, y1, hfit, hy, hO7⟩
  clear hy
  clear hfit he' hb1' l1 y1 hO6 hs6 hb6 P2 hB7 l0 y0 z0 hs0 hO5 X hW6 hO7
  go_wp2_with fail
  clear hcp hfp
  obtain ⟨z, hz⟩ : ∃ z, bits BinOp.xor IntKind.u8 y ((2 : Int) ^ j % 256) = z := ⟨_, rfl⟩
  rw [hz]
  obtain ⟨hzb, hzy⟩ := xor_turns y j hyb hj8 z hz
  obtain ⟨l1, y1, hfit, hy, hO7⟩ := Y.out
  obtain ⟨W8, hW8⟩ : ∃ W8, w7.setCell ⟨g4, p, none⟩ (.int .u8 z) = W8 := ⟨_, rfl⟩
  rw [hW8]
  obtain ⟨b2, hb2'⟩ : ∃ b2, b1.set p z = b2 := ⟨_, rfl⟩
  have l2 : b2.length = k + 2 := by rw [← hb2', ← l1]; simp
  have y2 : Byts b2 := by rw [← hb2']; exact byts_set y1 _ hzb
  have hO8 : Owns W8 w.heap.size g4 c4 b2 := by rw [← hW8, ← hb2']; exact hO7.set p z
  have hs8 : W8.heap.size = w7.heap.size := by rw [← hW8]; simp
  have hb8 : Below w.heap.size w W8 := by rw [← hW8]; exact hb7.setCell (p := ⟨g4, p, none⟩) hO7.ge _
  have P3 := parts_one W8 (some ⟨g4, 0, none⟩) b2 c4 (hO8.bytes y2)
  rw [hs8, l2] at P3
  refine (valid_any _ _ [b2] _ P3).mono ?_
  rintro e w9 ⟨he, hB9⟩
  have htold := turned_told y1 hfit (p := p) (by omega) (x := z) hzb hj8 (by rw [hy]; exact hzy)
  rw [hb2'] at htold
  have he' : (sumI [b2].flatten == 0) = false := by
    have : [b2].flatten = b2 := by simp
    rw [this]; exact htold
  rw [he'] at he
  subst he
  have hb9 : Below w.heap.size w w9 := (hb8.alloc hb8.size _).trans (hB9.mono (by have := hb8.size; simp; omega))
  clear htold he' hb2' l2 y2 hO8 hs8 hb8 P3 hB9 l1 y1 hfit hy hO7 Y hW8 hz hzb hzy
  go_wp2_with fail
  refine (heads_any _).mono ?_
  rintro e w' ⟨rfl, hB⟩
  go_wp2
  go_ret
  exact ⟨rfl, hb9.trans (hB.mono hb9.size)⟩
end Go.Proofs.Ytcjnpbgnjghcjaa
