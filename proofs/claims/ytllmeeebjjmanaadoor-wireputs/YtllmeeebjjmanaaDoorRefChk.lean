/- The contracts of the document's own word and Check. -/
import Derived.Test.YtllmeeebjjmanaaDoorRefOpts
import Derived.Test.YtllmeeebjjmanaaDoorPut
namespace Go.Proofs.YtllmeeebjjmanaaDoor
open Go.ChangeShapes Go.WideShapes Go.ChangeAt Go.RowKit Go.Shelf
set_option linter.unusedVariables false
set_option linter.unusedSimpArgs false

theorem refWord_yes (n : Int) (w : World) (h : 0 ≤ n ∧ n ≤ 65535) :
    Calls Tryd.prog 32 #[.int .i64 n] w fun e w' => e = .returned (.bool true) ∧ w' = w := by
  obtain ⟨h0, h1⟩ := h
  go_enter Tryd.func32, Tryd.ntmps32
  go_wp2
  go_ret
  exact ⟨ret_bool (by simp [h0, h1]), rfl⟩

theorem refWord_no (n : Int) (w : World) (h : ¬ (0 ≤ n ∧ n ≤ 65535)) :
    Calls Tryd.prog 32 #[.int .i64 n] w fun e w' => e = .returned (.bool false) ∧ w' = w := by
  by_cases h0 : 0 ≤ n
  · have h1 : ¬ n ≤ 65535 := fun h1 => h ⟨h0, h1⟩
    go_enter Tryd.func32, Tryd.ntmps32
    go_wp2
    go_ret
    exact ⟨ret_bool (by simp [h0, h1]), rfl⟩
  · go_enter Tryd.func32, Tryd.ntmps32
    go_wp2
    go_ret
    exact ⟨ret_bool (by simp [h0]), rfl⟩

/-- The first half of the conditions. -/
def ChkA (s : Seg) : Prop := (0 ≤ s.sp ∧ s.sp ≤ 65535) ∧ (0 ≤ s.dp ∧ s.dp ≤ 65535) ∧ (0 ≤ s.wn ∧ s.wn ≤ 65535) ∧ (0 ≤ s.ur ∧ s.ur ≤ 65535) ∧ (0 ≤ s.fl ∧ s.fl ≤ 255) ∧
  (-1 ≤ s.ms ∧ s.ms ≤ 65535) ∧ (-1 ≤ s.sc ∧ s.sc ≤ 14)

set_option maxRecDepth 100000 in
set_option maxHeartbeats 4000000 in
theorem refCheck_a (s : Seg) (ka : Option Addr) (kc : Nat) (da : Option Addr) (dc : Nat) (w : World) (hs : SegIn w s ka da) (hn : ¬ ChkA s) :
    Calls Tryd.prog 14 #[.agg (segV s ka kc da dc)] w fun e w' => e = .returned (.int .i64 2) ∧ Below w.heap.size w w' := by
  obtain ⟨W0, hW0⟩ : ∃ W0, w.alloc (.cells (segV s ka kc da dc) 26) = W0 := ⟨_, rfl⟩
  have hblk : W0.heap[w.heap.size]? = some (.cells (segV s ka kc da dc) 26) := by rw [← hW0]; exact World.alloc_heap_new w _
  have b0 : Below w.heap.size w W0 := by rw [← hW0]; exact (Below.refl _ w).alloc (Nat.le_refl _) _
  have HB : Hid (Below w.heap.size w W0) := b0
  obtain ⟨c0, c1, c2, c3, c4, c5, c6, c7, c8, c9, c10, c11, c12, c13, c14⟩ := boxAt_of hblk
  obtain ⟨sp, dp, sq, ak, fl, wn, ur, ms, sc, so, st, va, ec, sk, dat⟩ := s
  unfold ChkA at hn
  dsimp only at *
  have hcase : (¬ (0 ≤ sp ∧ sp ≤ 65535)) ∨ ((0 ≤ sp ∧ sp ≤ 65535) ∧ ¬ (0 ≤ dp ∧ dp ≤ 65535)) ∨ ((0 ≤ sp ∧ sp ≤ 65535) ∧ (0 ≤ dp ∧ dp ≤ 65535) ∧ ¬ (0 ≤ wn ∧ wn ≤ 65535)) ∨
      ((0 ≤ sp ∧ sp ≤ 65535) ∧ (0 ≤ dp ∧ dp ≤ 65535) ∧ (0 ≤ wn ∧ wn ≤ 65535) ∧ ((¬ (0 ≤ ur ∧ ur ≤ 65535)) ∨ ((0 ≤ ur ∧ ur ≤ 65535) ∧ (fl < 0 ∨ (¬ fl < 0 ∧ fl > 255) ∨ (¬ fl < 0 ∧ ¬ fl > 255 ∧ ms < -1) ∨ (¬ fl < 0 ∧ ¬ fl > 255 ∧ ¬ ms < -1 ∧ ms > 65535) ∨ (¬ fl < 0 ∧ ¬ fl > 255 ∧ ¬ ms < -1 ∧ ¬ ms > 65535 ∧ sc < -1) ∨ (¬ fl < 0 ∧ ¬ fl > 255 ∧ ¬ ms < -1 ∧ ¬ ms > 65535 ∧ ¬ sc < -1 ∧ sc > 14))))) := by omega
  clear hn hblk b0 hs
  unfold segV at hW0
  dsimp only at hW0
  unfold segV
  dsimp only
  rcases hcase with h1 | ⟨h1, h2⟩ | ⟨h1, h2, h3⟩ | ⟨h1, h2, h3, h4 | ⟨h4, h5 | ⟨h5, h6⟩ | ⟨h5, h6, h7⟩ | ⟨h5, h6, h7, h8⟩ | ⟨h5, h6, h7, h8, h9⟩ | ⟨h5, h6, h7, h8, h9, h10⟩⟩⟩
  all_goals go_enter Tryd.func14, Tryd.ntmps14
  all_goals go_wp2_with (go_at_call 32; first | (refine (refWord_yes _ _ (by assumption)).mono ?_; rintro e w' ⟨rfl, rfl⟩) | (refine (refWord_no _ _ (by assumption)).mono ?_; rintro e w' ⟨rfl, rfl⟩))
  all_goals go_ret
  all_goals exact ⟨rfl, HB.out⟩

set_option maxRecDepth 100000 in
set_option maxHeartbeats 4000000 in
theorem refCheck_b (s : Seg) (ka : Option Addr) (kc : Nat) (da : Option Addr) (dc : Nat) (w : World) (hs : SegIn w s ka da) (hn : ChkA s) (hn2 : ¬ (s.sk.length ≤ 4 ∧ s.da.length ≤ 65000 ∧ (s.st = true ∨ (s.va = 0 ∧ s.ec = 0)))) :
    Calls Tryd.prog 14 #[.agg (segV s ka kc da dc)] w fun e w' => e = .returned (.int .i64 2) ∧ Below w.heap.size w w' := by
  obtain ⟨W0, hW0⟩ : ∃ W0, w.alloc (.cells (segV s ka kc da dc) 26) = W0 := ⟨_, rfl⟩
  have hblk : W0.heap[w.heap.size]? = some (.cells (segV s ka kc da dc) 26) := by rw [← hW0]; exact World.alloc_heap_new w _
  have b0 : Below w.heap.size w W0 := by rw [← hW0]; exact (Below.refl _ w).alloc (Nat.le_refl _) _
  have HB : Hid (Below w.heap.size w W0) := b0
  have hva : 0 ≤ s.va ∧ s.va ≤ 4294967295 := hs.ok.va
  have hec : 0 ≤ s.ec ∧ s.ec ≤ 4294967295 := hs.ok.ec
  have hkl : s.sk.length ≤ maxLen := hs.ks.1
  have hdl : s.da.length ≤ maxLen := hs.ds.1
  obtain ⟨c0, c1, c2, c3, c4, c5, c6, c7, c8, c9, c10, c11, c12, c13, c14⟩ := boxAt_of hblk
  obtain ⟨sp, dp, sq, ak, fl, wn, ur, ms, sc, so, st, va, ec, sk, dat⟩ := s
  unfold ChkA at hn
  obtain ⟨h1, h2, h3, h4, h5, h6, h7⟩ := hn
  dsimp only at *
  unfold segV at hW0
  dsimp only at hW0
  unfold segV
  dsimp only
  have f1 : ¬ fl < 0 := by omega
  have f2 : ¬ fl > 255 := by omega
  have f3 : ¬ ms < -1 := by omega
  have f4 : ¬ ms > 65535 := by omega
  have f5 : ¬ sc < -1 := by omega
  have f6 : ¬ sc > 14 := by omega
  unfold maxLen at hkl hdl
  have hcase : ((sk.length : Int) > 4) ∨ (¬ (sk.length : Int) > 4 ∧ (dat.length : Int) > 65000) ∨ (¬ (sk.length : Int) > 4 ∧ ¬ (dat.length : Int) > 65000 ∧ st = false ∧ va ≠ 0) ∨ (¬ (sk.length : Int) > 4 ∧ ¬ (dat.length : Int) > 65000 ∧ st = false ∧ va = 0 ∧ ec ≠ 0) := by
    cases st
    · simp only [Bool.false_eq_true, false_or] at hn2
      by_cases a1 : (sk.length : Int) > 4
      · exact .inl a1
      · by_cases a2 : (dat.length : Int) > 65000
        · exact .inr (.inl ⟨a1, a2⟩)
        · by_cases a3 : va = 0
          · by_cases a4 : ec = 0
            · exact absurd ⟨by omega, by omega, a3, a4⟩ hn2
            · exact .inr (.inr (.inr ⟨a1, a2, rfl, a3, a4⟩))
          · exact .inr (.inr (.inl ⟨a1, a2, rfl, a3⟩))
    · simp only [true_or, and_true] at hn2
      omega
  clear hn2 hblk b0 hs
  rcases hcase with g1 | ⟨g1, g2⟩ | ⟨g1, g2, rfl, g3⟩ | ⟨g1, g2, rfl, rfl, g4⟩
  all_goals go_enter Tryd.func14, Tryd.ntmps14
  all_goals go_wp2_with (go_at_call 32; first | (refine (refWord_yes _ _ (by assumption)).mono ?_; rintro e w' ⟨rfl, rfl⟩) | (refine (refWord_no _ _ (by assumption)).mono ?_; rintro e w' ⟨rfl, rfl⟩))
  all_goals go_ret
  all_goals exact ⟨rfl, HB.out⟩

set_option maxRecDepth 100000 in
set_option maxHeartbeats 4000000 in
theorem refCheck_c (s : Seg) (ka : Option Addr) (kc : Nat) (da : Option Addr) (dc : Nat) (w : World) (hs : SegIn w s ka da) (hn : ChkA s) (hn2 : s.sk.length ≤ 4 ∧ s.da.length ≤ 65000 ∧ (s.st = true ∨ (s.va = 0 ∧ s.ec = 0))) :
    Calls Tryd.prog 14 #[.agg (segV s ka kc da dc)] w fun e w' => e = .returned (.int .i64 (if (optI s).length ≤ 40 then 0 else 2)) ∧ Below w.heap.size w w' := by
  obtain ⟨W0, hW0⟩ : ∃ W0, w.alloc (.cells (segV s ka kc da dc) 26) = W0 := ⟨_, rfl⟩
  have hblk : W0.heap[w.heap.size]? = some (.cells (segV s ka kc da dc) 26) := by rw [← hW0]; exact World.alloc_heap_new w _
  have b0 : Below w.heap.size w W0 := by rw [← hW0]; exact (Below.refl _ w).alloc (Nat.le_refl _) _
  have HB : Hid (Below w.heap.size w W0) := b0
  have ho := refOptions_any s ka kc da dc W0 (hs.below b0 (Nat.le_refl _)) (by have := hn2.1; omega)
  obtain ⟨ol, hol⟩ : ∃ ol, (optI s).length = ol := ⟨_, rfl⟩
  rw [hol] at ho ⊢
  have HO : Hid (Calls Tryd.prog 16 #[.agg (segV s ka kc da dc)] W0 fun e w' => ∃ va vc, e = .returned (.slice va ol vc) ∧ Row w' W0.heap.size va ol vc (optI s) ∧ Below W0.heap.size W0 w') := ho
  clear ho hol
  obtain ⟨c0, c1, c2, c3, c4, c5, c6, c7, c8, c9, c10, c11, c12, c13, c14⟩ := boxAt_of hblk
  obtain ⟨sp, dp, sq, ak, fl, wn, ur, ms, sc, so, st, va, ec, sk, dat⟩ := s
  unfold ChkA at hn
  obtain ⟨h1, h2, h3, h4, h5, h6, h7⟩ := hn
  dsimp only at *
  unfold segV at hW0 HO
  dsimp only at hW0 HO
  unfold segV
  dsimp only
  have f1 : ¬ fl < 0 := by omega
  have f2 : ¬ fl > 255 := by omega
  have f3 : ¬ ms < -1 := by omega
  have f4 : ¬ ms > 65535 := by omega
  have f5 : ¬ sc < -1 := by omega
  have f6 : ¬ sc > 14 := by omega
  have g1 : ¬ (sk.length : Int) > 4 := by omega
  have g2 : ¬ (dat.length : Int) > 65000 := by omega
  have hd := hn2.2.2
  clear hn2 hblk b0 hs
  rcases hd with rfl | ⟨rfl, rfl⟩
  · go_enter Tryd.func14, Tryd.ntmps14
    go_wp2_with (go_at_call 32; refine (refWord_yes _ _ (by assumption)).mono ?_; rintro e w' ⟨rfl, rfl⟩)
    refine HO.out.mono ?_
    rintro e w2 ⟨oa, oc, rfl, _, hB2⟩
    by_cases hl : ol ≤ 40
    · go_wp2_with fail
      go_ret
      exact ⟨by first | rfl | rw [if_pos hl], HB.out.trans (hB2.mono HB.out.size)⟩
    · go_wp2_with fail
      go_ret
      exact ⟨by first | rfl | rw [if_neg hl], HB.out.trans (hB2.mono HB.out.size)⟩
  · cases st
    all_goals go_enter Tryd.func14, Tryd.ntmps14
    all_goals go_wp2_with (go_at_call 32; refine (refWord_yes _ _ (by assumption)).mono ?_; rintro e w' ⟨rfl, rfl⟩)
    all_goals refine HO.out.mono ?_
    all_goals rintro e w2 ⟨oa, oc, rfl, _, hB2⟩
    all_goals by_cases hl : ol ≤ 40
    all_goals go_wp2_with fail
    all_goals go_ret
    all_goals first | exact ⟨by first | rfl | rw [if_pos hl], HB.out.trans (hB2.mono HB.out.size)⟩ | exact ⟨by first | rfl | rw [if_neg hl], HB.out.trans (hB2.mono HB.out.size)⟩

theorem refCheck_any (s : Seg) (ka : Option Addr) (kc : Nat) (da : Option Addr) (dc : Nat) (w : World) (hs : SegIn w s ka da) :
    Calls Tryd.prog 14 #[.agg (segV s ka kc da dc)] w fun e w' => ((ChkI s ∧ e = .returned (.int .i64 0)) ∨ (¬ ChkI s ∧ e = .returned (.int .i64 2))) ∧ Below w.heap.size w w' := by
  by_cases hA : ChkA s
  · by_cases hB : s.sk.length ≤ 4 ∧ s.da.length ≤ 65000 ∧ (s.st = true ∨ (s.va = 0 ∧ s.ec = 0))
    · refine (refCheck_c s ka kc da dc w hs hA hB).mono ?_
      rintro e w' ⟨rfl, hb⟩
      by_cases hl : (optI s).length ≤ 40
      · rw [if_pos hl]
        obtain ⟨h1, h2, h3, h4, h5, h6, h7⟩ := hA
        exact ⟨.inl ⟨⟨h1, h2, h3, h4, h5, h6, h7, hB.2.2, hB.2.1, hB.1, hl⟩, rfl⟩, hb⟩
      · rw [if_neg hl]
        exact ⟨.inr ⟨fun h => hl h.2.2.2.2.2.2.2.2.2.2, rfl⟩, hb⟩
    · refine (refCheck_b s ka kc da dc w hs hA hB).mono ?_
      rintro e w' ⟨rfl, hb⟩
      exact ⟨.inr ⟨fun h => hB ⟨h.2.2.2.2.2.2.2.2.2.1, h.2.2.2.2.2.2.2.2.1, h.2.2.2.2.2.2.2.1⟩, rfl⟩, hb⟩
  · refine (refCheck_a s ka kc da dc w hs hA).mono ?_
    rintro e w' ⟨rfl, hb⟩
    exact ⟨.inr ⟨fun h => hA ⟨h.1, h.2.1, h.2.2.1, h.2.2.2.1, h.2.2.2.2.1, h.2.2.2.2.2.1, h.2.2.2.2.2.2.1⟩, rfl⟩, hb⟩
end Go.Proofs.YtllmeeebjjmanaaDoor
