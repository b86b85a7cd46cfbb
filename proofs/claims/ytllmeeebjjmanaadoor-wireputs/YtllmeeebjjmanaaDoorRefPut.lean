/- The contract of the document's own Put. -/
import Derived.Test.YtllmeeebjjmanaaDoorRefChk
import Derived.Test.YtllmeeebjjmanaaDoorRefApp
namespace Go.Proofs.YtllmeeebjjmanaaDoor
open Go.ChangeShapes Go.WideShapes Go.ChangeAt Go.RowKit Go.Shelf
set_option linter.unusedVariables false

set_option maxRecDepth 100000 in
set_option maxHeartbeats 1000000 in
theorem refPut_no (s : Seg) (ka : Option Addr) (kc : Nat) (da : Option Addr) (dc : Nat) (src dst : Int) (w : World) (hs : SegIn w s ka da) (hc : ¬ ChkI s) :
    Calls Tryd.prog 10 #[.agg (segV s ka kc da dc), .int .u32 src, .int .u32 dst] w fun e w' => e = .returned (.tuple #[.slice none 0 0, .int .i64 2]) ∧ Below w.heap.size w w' := by
  obtain ⟨W0, hW0⟩ : ∃ W0, w.alloc (.cells (segV s ka kc da dc) 26) = W0 := ⟨_, rfl⟩
  have hblk : W0.heap[w.heap.size]? = some (.cells (segV s ka kc da dc) 26) := by rw [← hW0]; exact World.alloc_heap_new w _
  have b0 : Below w.heap.size w W0 := by rw [← hW0]; exact (Below.refl _ w).alloc (Nat.le_refl _) _
  have hk := refCheck_any s ka kc da dc W0 (hs.below b0 (Nat.le_refl _))
  obtain ⟨c0, c1, c2, c3, c4, c5, c6, c7, c8, c9, c10, c11, c12, c13, c14⟩ := boxAt_of hblk
  have HK : Hid (Calls Tryd.prog 14 #[.agg (segV s ka kc da dc)] W0 fun e w' => ((ChkI s ∧ e = .returned (.int .i64 0)) ∨ (¬ ChkI s ∧ e = .returned (.int .i64 2))) ∧ Below W0.heap.size W0 w') := hk
  clear hk hblk hs
  unfold segV at *
  go_enter Tryd.func10, Tryd.ntmps10
  go_wp2_with fail
  refine HK.out.mono ?_
  rintro e w1 ⟨he, hB1⟩
  rcases he with ⟨hn, _⟩ | ⟨_, rfl⟩
  · exact absurd hn hc
  go_wp2_with fail
  go_ret2
  exact ⟨rfl, b0.trans (hB1.mono b0.size)⟩

set_option maxRecDepth 100000 in
set_option maxHeartbeats 8000000 in
theorem refPut_ok (s : Seg) (ka : Option Addr) (kc : Nat) (da : Option Addr) (dc : Nat) (src dst : Int) (w : World) (hs : SegIn w s ka da) (hc : ChkI s) (hdc : da = none → dc = 0) (hsrc : U32 src) (hdst : U32 dst) :
    Calls Tryd.prog 10 #[.agg (segV s ka kc da dc), .int .u32 src, .int .u32 dst] w fun e w' => ∃ va vc, e = .returned (.tuple #[.slice va (putI s src dst).length vc, .int .i64 0]) ∧ Row w' w.heap.size va (putI s src dst).length vc (putI s src dst) ∧ Below w.heap.size w w' := by
  obtain ⟨W0, hW0⟩ : ∃ W0, w.alloc (.cells (segV s ka kc da dc) 26) = W0 := ⟨_, rfl⟩
  have hsz : W0.heap.size = w.heap.size + 1 := by rw [← hW0]; simp
  have hblk : W0.heap[w.heap.size]? = some (.cells (segV s ka kc da dc) 26) := by rw [← hW0]; exact World.alloc_heap_new w _
  have b0 : Below w.heap.size w W0 := by rw [← hW0]; exact (Below.refl _ w).alloc (Nat.le_refl _) _
  have hs0 := hs.below b0 (Nat.le_refl _)
  have hk := refCheck_any s ka kc da dc W0 hs0
  obtain ⟨c0, c1, c2, c3, c4, c5, c6, c7, c8, c9, c10, c11, c12, c13, c14⟩ := boxAt_of hblk
  have HK : Hid (Calls Tryd.prog 14 #[.agg (segV s ka kc da dc)] W0 fun e w' => ((ChkI s ∧ e = .returned (.int .i64 0)) ∨ (¬ ChkI s ∧ e = .returned (.int .i64 2))) ∧ Below W0.heap.size W0 w') := hk
  have HC : Hid (ChkI s) := hc
  have HBLK : Hid (W0.heap[w.heap.size]? = some (.cells (segV s ka kc da dc) 26)) := hblk
  have HS0 : Hid (SegIn W0 s ka da) := hs0
  have HS : Hid (U32 src ∧ U32 dst) := ⟨hsrc, hdst⟩
  have HDC : Hid (da = none → dc = 0) := hdc
  clear hk hblk hs hs0 hc hsrc hdst hdc
  unfold segV at *
  go_enter Tryd.func10, Tryd.ntmps10
  go_wp2_with fail
  refine HK.out.mono ?_
  rintro e w1 ⟨he, hB1⟩
  have hblk1 := block_keep HBLK.out hB1 (Nat.le_refl _)
  rcases he with ⟨_, rfl⟩ | ⟨hn, _⟩
  case inr => exact absurd HC.out hn
  clear c0 c1 c2 c3 c4 c5 c6 c7 c8 c9 c10 c11 c12 c13 c14 hW0
  obtain ⟨c0, c1, c2, c3, c4, c5, c6, c7, c8, c9, c10, c11, c12, c13, c14⟩ := boxAt_of hblk1
  have HBLK1 : Hid (w1.heap[w.heap.size]? = some (.cells (segV s ka kc da dc) 26)) := hblk1
  have HS1 : Hid (SegIn w1 s ka da) := HS0.out.below hB1 (Nat.le_refl _)
  have HB1 : Hid (Below w.heap.size w w1) := b0.trans (hB1.mono b0.size)
  have hz1' := hB1.size
  clear hblk1 hB1 b0 HBLK HS0 HK
  go_wp2_with fail
  have hopt := refOptions_any s ka kc da dc w1 HS1.out (by have := HC.out.2.2.2.2.2.2.2.2.2.1; omega)
  unfold segV at hopt
  refine hopt.mono ?_
  clear hopt
  rintro e w2 ⟨oa, oc, rfl, hRo, hB2⟩
  obtain ⟨os, hos⟩ : ∃ os, optI s = os := ⟨_, rfl⟩
  rw [hos] at hRo ⊢
  obtain ⟨ol, hol⟩ : ∃ ol, os.length = ol := ⟨_, rfl⟩
  rw [hol] at hRo ⊢
  have hol40 : ol ≤ 40 := by rw [← hol, ← hos]; exact HC.out.2.2.2.2.2.2.2.2.2.2
  have hol4 : ol % 4 = 0 := by rw [← hol, ← hos]; exact opt_len4 s
  have HOS : Hid (optI s = os ∧ os.length = ol ∧ Byts os) := ⟨hos, hol, by rw [← hos]; exact opt_byts HS1.out.ok⟩
  have HRo : Hid (Row w2 w1.heap.size oa ol oc os) := hRo
  have hblk2 := block_keep HBLK1.out hB2 (Nat.le_refl _)
  clear c0 c1 c2 c3 c4 c5 c6 c7 c8 c9 c10 c11 c12 c13 c14 hos hol hRo
  have HS2 : Hid (SegIn w2 s ka da) := HS1.out.below hB2 (Nat.le_refl _)
  have HB2 : Hid (Below w.heap.size w w2) := HB1.out.trans (hB2.mono HB1.out.size)
  have hz2' : w.heap.size + 1 ≤ w2.heap.size := by have := hB2.size; omega
  have BX : Hid (∀ wr, Below w2.heap.size w2 wr → BoxAt wr w.heap.size s ka kc da dc) := fun wr h => boxAt_of (block_keep hblk2 h (Nat.le_refl _))
  have hdl : s.da.length ≤ 65000 := HC.out.2.2.2.2.2.2.2.2.1
  obtain ⟨dl, hdl'⟩ : ∃ dl, s.da.length = dl := ⟨_, rfl⟩
  rw [hdl'] at hdl
  have HDL : Hid (s.da.length = dl) := hdl'
  clear hblk2 hB2 HBLK1 HS1 HB1 hz1' hdl' hsz
  go_upto_region 4 with fail
  go_region_held3 (fun W => W.cell? ⟨w.heap.size, 0, none⟩ = some (.int .i64 s.sp) ∧ W.cell? ⟨w.heap.size, 1, none⟩ = some (.int .i64 s.dp) ∧ Below w2.heap.size w2 W)
    (refine ⟨(BX.out _ ?_).c0, (BX.out _ ?_).c1, ?_⟩ <;> (repeat (first | with_reducible exact Below.refl _ _ | with_reducible assumption | with_reducible refine Below.drew ?_ | with_reducible refine below_drewN ?_ _)))
    (first
      | (go_at_call_of 26 s.sp; refine (refTwo_any s.sp _ HC.out.1).mono ?_; rintro e w3 ⟨g3, rfl, hR3', _, hb3'⟩; have hb3 : Below w2.heap.size w2 w3 := Below.on (by repeat (first | with_reducible exact Below.refl _ _ | with_reducible assumption | with_reducible refine Below.drew ?_ | with_reducible refine below_drewN ?_ _)) hb3'; have hR3 : Row w3 w2.heap.size (some ⟨g3, 0, none⟩) 2 2 (twoI s.sp) := hR3'.mono (Nat.le_refl _))
      | (go_at_call_of 26 s.dp; refine (refTwo_any s.dp _ HC.out.2.1).mono ?_; rintro e w4 ⟨g4, rfl, _, hF4, hb4'⟩; have hb4 : Below w2.heap.size w2 w4 := Below.on hb3 hb4'; have hR4 := hR3.below hb4' (Nat.le_refl _))
      | (refine step_app rfl (.tmp 18) (.tmp 21) rfl w2.heap.size _ 2 _ (twoI s.sp) _ 2 _ (twoI s.dp) rfl rfl hR4 hF4 rfl (fun h => by cases h) (by decide) hb4.size ?_; intro a5 c5 w5 hR5 hb5' _; have hb5 := hb4.trans hb5'))
  clear hR3 hb3 hR3' hb3' hF4 hR4 hb4 hb4' hb5'
  have hR5' : Row w5 w2.heap.size a5 4 c5 (twoI s.sp ++ twoI s.dp) := hR5
  clear hR5
  go_upto_region 5 with fail
  go_region_held3 (fun W => W.cell? ⟨w.heap.size, 2, none⟩ = some (.int .u32 s.sq) ∧ W.cell? ⟨w.heap.size, 3, none⟩ = some (.int .u32 s.ak) ∧ Below w2.heap.size w2 W)
    (refine ⟨(BX.out _ ?_).c2, (BX.out _ ?_).c3, ?_⟩ <;> (repeat (first | with_reducible exact Below.refl _ _ | with_reducible assumption | with_reducible refine Below.drew ?_ | with_reducible refine below_drewN ?_ _)))
    (first
      | (go_at_call_of 27 s.sq; refine (refFour_any s.sq _ HS2.out.ok.sq).mono ?_; rintro e w6 ⟨g6, rfl, hF6, hb6'⟩; have hb6 : Below w2.heap.size w2 w6 := Below.on (by (repeat (first | with_reducible exact Below.refl _ _ | with_reducible assumption | with_reducible refine Below.drew ?_ | with_reducible refine below_drewN ?_ _))) hb6'; have hR6 := (Row.of_heap hR5' (by rfl)).below hb6' (Nat.le_refl _))
      | (refine step_app rfl (.tmp 23) (.tmp 26) rfl w2.heap.size _ 4 _ (twoI s.sp ++ twoI s.dp) _ 4 _ (fourI s.sq) rfl rfl hR6 hF6 rfl (fun h => by cases h) (by decide) hb6.size ?_; intro a7 c7 w7 hR7 hb7' _; have hb7 := hb6.trans hb7')
      | (go_at_call_of 27 s.ak; refine (refFour_any s.ak _ HS2.out.ok.ak).mono ?_; rintro e w8 ⟨g8, rfl, hF8, hb8'⟩; have hb8 : Below w2.heap.size w2 w8 := Below.on hb7 hb8'; have hR8 := hR7.below hb8' (Nat.le_refl _))
      | (refine step_app rfl (.tmp 27) (.tmp 30) rfl w2.heap.size _ 8 _ (twoI s.sp ++ twoI s.dp ++ fourI s.sq) _ 4 _ (fourI s.ak) rfl rfl hR8 hF8 rfl (fun h => by cases h) (by decide) hb8.size ?_; intro a9 c9 w9 hR9' hb9' _; have hb9 := hb8.trans hb9'; have hR9 : Row w9 w2.heap.size a9 12 c9 (twoI s.sp ++ twoI s.dp ++ fourI s.sq ++ fourI s.ak) := hR9'))
  clear hR5' hb5 hb6' hb6 hR6 hF6 hb7' hb7 hR7 hb8' hb8 hR8 hF8 hb9' hR9'
  have c4 := (BX.out _ hb9).c4
  obtain ⟨hfl0, hfl1⟩ := HC.out.2.2.2.2.1
  have hs9 := hb9.size
  have oR := hR9.alloc (.cells ([16 * (5 + (ol : Int) / 4), s.fl].map (Value.int .u8)).toArray 5)
  have oN := bytes_new w9 [16 * (5 + (ol : Int) / 4), s.fl] (by intro x hx; simp only [List.mem_cons, List.not_mem_nil, or_false] at hx; rcases hx with rfl | rfl <;> omega) (by simp [maxLen])
  have OR : Hid (Row (w9.alloc (.cells ([16 * (5 + (ol : Int) / 4), s.fl].map (Value.int .u8)).toArray 5)) w2.heap.size a9 12 c9 (twoI s.sp ++ twoI s.dp ++ fourI s.sq ++ fourI s.ak)) := oR
  have ON : Hid (BytesAt (w9.alloc (.cells ([16 * (5 + (ol : Int) / 4), s.fl].map (Value.int .u8)).toArray 5)) (some ⟨w9.heap.size, 0, none⟩) [16 * (5 + (ol : Int) / 4), s.fl]) := oN
  clear oR oN hR9
  go_upto_region 7 with (at_builtin; refine list_app rfl (.tmp 32) (.tmp 42) rfl w2.heap.size _ 12 _ (twoI s.sp ++ twoI s.dp ++ fourI s.sq ++ fourI s.ak) _ 2 _ [16 * (5 + (ol : Int) / 4), s.fl] rfl rfl OR.out ON.out rfl (fun h => by cases h) (by decide) (by simp; omega) ?_; intro a10 c10 w10 hR10' hb10' _; have hb10 : Below w2.heap.size w2 w10 := (hb9.alloc hs9 _).trans hb10'; have hR10 : Row w10 w2.heap.size a10 14 c10 (twoI s.sp ++ twoI s.dp ++ fourI s.sq ++ fourI s.ak ++ [16 * (5 + (ol : Int) / 4), s.fl]) := hR10')
  clear c4 hfl0 hfl1 hs9 OR ON hb9 hb10' hR10'
  obtain ⟨pre, hpre⟩ : ∃ pre, twoI s.sp ++ twoI s.dp ++ fourI s.sq ++ fourI s.ak ++ [16 * (5 + (ol : Int) / 4), s.fl] = pre := ⟨_, rfl⟩
  rw [hpre] at hR10
  have HPRE : Hid (twoI s.sp ++ twoI s.dp ++ fourI s.sq ++ fourI s.ak ++ [16 * (5 + (ol : Int) / 4), s.fl] = pre) := hpre
  clear hpre
  go_cut [9] (fun v wr => Upto w2 w2.heap.size (pre ++ twoI s.wn ++ [0, 0] ++ twoI s.ur) v wr)
  case first =>
    have HNE : Hid (∀ p, w10.heap.size ≤ p → (Value.slice a10 14 c10).ownBlock ≠ some p) := fun p hp e => by
      have := (World.ownsRow.lt hR10 p e).2
      omega
    go_region_held3 (fun W => W.cell? ⟨w.heap.size, 5, none⟩ = some (.int .i64 s.wn) ∧ W.cell? ⟨w.heap.size, 6, none⟩ = some (.int .i64 s.ur) ∧ Below w2.heap.size w2 W)
      (refine ⟨(BX.out _ ?_).c5, (BX.out _ ?_).c6, ?_⟩ <;> (repeat (first | with_reducible exact Below.refl _ _ | with_reducible assumption | with_reducible refine Below.drew ?_ | with_reducible refine below_drewN ?_ _ | with_reducible refine below_more ?_ _)))
      (first
        | (go_at_call_of 26 s.wn; refine (refTwo_any s.wn _ HC.out.2.2.1).mono ?_; rintro e w11 ⟨g11, rfl, _, hF11, hb11'⟩; have hb11 : Below w2.heap.size w2 w11 := Below.on (by (repeat (first | with_reducible exact Below.refl _ _ | with_reducible assumption | with_reducible refine Below.drew ?_ | with_reducible refine below_drewN ?_ _ | with_reducible refine below_more ?_ _))) hb11'; have hR11 : Row w11 w2.heap.size a10 14 c10 pre := (by first | exact (Row.of_heap hR10 (by rfl)).below hb11' (Nat.le_refl _) | exact (Row.of_heap (hR10.alloc (.cells ([0, 0].map (Value.int .u8)).toArray 5)) (by rfl)).below hb11' (Nat.le_refl _)); try have hZ11 : BytesAt w11 (some ⟨w10.heap.size, 0, none⟩) [0, 0] := (BytesAt.of_heap (bytes_new w10 [0, 0] (by intro x hx; simp only [List.mem_cons, List.not_mem_nil, or_false, or_self] at hx; subst hx; decide) (by simp [maxLen])) (by rfl)).below hb11' (Nat.le_refl _))
        | (refine step_app rfl (.tmp 44) (.tmp 47) rfl w2.heap.size a10 14 c10 pre _ 2 _ (twoI s.wn) rfl rfl (by first | exact hR11 | exact Row.of_heap hR11 (by rfl) | exact Row.of_heap (hR11.alloc (.cells ([0, 0].map (Value.int .u8)).toArray 5)) (by rfl)) (by first | exact hF11 | exact BytesAt.of_heap hF11 (by rfl) | exact BytesAt.of_heap (hF11.alloc (.cells ([0, 0].map (Value.int .u8)).toArray 5)) (by rfl)) rfl (fun h => by cases h) (by decide) (Below.size (B := w2.heap.size) (by (repeat (first | with_reducible exact Below.refl _ _ | with_reducible assumption | with_reducible refine Below.drew ?_ | with_reducible refine below_drewN ?_ _ | with_reducible refine below_more ?_ _)))) ?_; intro a12 c12 w12 hR12 hb12' hg12; have hb12 : Below w2.heap.size w2 w12 := Below.trans (by (repeat (first | with_reducible exact Below.refl _ _ | with_reducible assumption | with_reducible refine Below.drew ?_ | with_reducible refine below_drewN ?_ _ | with_reducible refine below_more ?_ _))) hb12'; (try (have hZ12 : BytesAt w12 (some ⟨w10.heap.size, 0, none⟩) [0, 0] := hZ11.aside hg12 (HNE.out _ (Nat.le_refl _)))); (try (have hZ12 : BytesAt w12 (some ⟨w11.heap.size, 0, none⟩) [0, 0] := BytesAt.aside (BytesAt.of_heap (bytes_new w11 [0, 0] (by intro x hx; simp only [List.mem_cons, List.not_mem_nil, or_false, or_self] at hx; subst hx; decide) (by simp [maxLen])) (by rfl)) hg12 (HNE.out _ hb11'.size))))
        | (refine step_app rfl (.tmp 48) (.tmp 49) rfl w2.heap.size a12 16 c12 (pre ++ twoI s.wn) _ 2 _ [0, 0] rfl rfl (by first | exact hR12 | exact Row.of_heap hR12 (by rfl) | exact Row.of_heap (hR12.alloc (.cells ([0, 0].map (Value.int .u8)).toArray 5)) (by rfl)) (by first | exact hZ12 | exact BytesAt.of_heap hZ12 (by rfl) | exact BytesAt.of_heap (bytes_new w12 [0, 0] (by intro x hx; simp only [List.mem_cons, List.not_mem_nil, or_false, or_self] at hx; subst hx; decide) (by simp [maxLen])) (by rfl)) rfl (fun h => by cases h) (by decide) (Below.size (B := w2.heap.size) (by (repeat (first | with_reducible exact Below.refl _ _ | with_reducible assumption | with_reducible refine Below.drew ?_ | with_reducible refine below_drewN ?_ _ | with_reducible refine below_more ?_ _)))) ?_; intro a13 c13 w13 hR13 hb13' _; have hb13 : Below w2.heap.size w2 w13 := Below.trans (by (repeat (first | with_reducible exact Below.refl _ _ | with_reducible assumption | with_reducible refine Below.drew ?_ | with_reducible refine below_drewN ?_ _ | with_reducible refine below_more ?_ _))) hb13')
        | (go_at_call_of 26 s.ur; refine (refTwo_any s.ur _ HC.out.2.2.2.1).mono ?_; rintro e w14 ⟨g14, rfl, _, hF14, hb14'⟩; have hb14 : Below w2.heap.size w2 w14 := Below.on hb13 hb14'; have hR14 := hR13.below hb14' (Nat.le_refl _))
        | (refine step_app rfl (.tmp 50) (.tmp 53) rfl w2.heap.size a13 18 c13 (pre ++ twoI s.wn ++ [0, 0]) _ 2 _ (twoI s.ur) rfl rfl hR14 hF14 rfl (fun h => by cases h) (by decide) hb14.size ?_; intro a15 c15 w15 hR15 hb15' _; have hb15 := hb14.trans hb15'))
    all_goals try go_wp2_with fail
    all_goals go_meet
    all_goals exact ⟨_, _, _, rfl, hR15, hb15⟩
  case rest =>
    clear hR10 hb10
    obtain ⟨v15, L15, n15, rfl, hR15, hb15⟩ := hcut
    have hhd : pre ++ twoI s.wn ++ [0, 0] ++ twoI s.ur = headI s ol := by rw [← HPRE.out]; rfl
    rw [hhd] at hR15
    obtain ⟨hd, hhd2⟩ : ∃ hd, headI s ol = hd := ⟨_, rfl⟩
    have hL15 : L15 = 20 := by rw [← hR15.len]; rfl
    subst hL15
    rw [hhd2] at hR15
    have HHD : Hid (headI s ol = hd) := hhd2
    have HON : Hid (oa = none → oc = 0) := fun h => by
      rcases HRo.out.cases with ⟨_, _, h0, _⟩ | ⟨g, hg⟩
      · exact h0
      · rw [hg] at h; cases h
    have HOB : Hid (BytesAt w2 oa os) := HRo.out.bytes HOS.out.2.2 (by rw [HOS.out.2.1]; unfold maxLen; omega)
    clear hhd hhd2 HPRE
    go_upto_region 8 with fail
    go_region_held3 (fun W => W.cell? ⟨w.heap.size, 14, none⟩ = some (.slice da s.da.length dc) ∧ Below w2.heap.size w2 W)
      (refine ⟨(BX.out _ ?_).c14, ?_⟩ <;> (repeat (first | with_reducible exact Below.refl _ _ | with_reducible assumption | with_reducible refine Below.drew ?_ | with_reducible refine below_drewN ?_ _ | with_reducible refine below_more ?_ _)))
      (first
        | (refine step_app rfl (.tmp 55) (.tmp 56) rfl w2.heap.size v15 20 n15 hd oa ol oc os rfl rfl (by first | exact hR15 | exact Row.of_heap hR15 (by rfl)) (HOB.out.below (B := w2.heap.size) (by (repeat (first | with_reducible exact Below.refl _ _ | with_reducible assumption | with_reducible refine Below.drew ?_ | with_reducible refine below_drewN ?_ _ | with_reducible refine below_more ?_ _))) (Nat.le_refl _)) HOS.out.2.1 HON.out (by omega) (Below.size (B := w2.heap.size) (by (repeat (first | with_reducible exact Below.refl _ _ | with_reducible assumption | with_reducible refine Below.drew ?_ | with_reducible refine below_drewN ?_ _ | with_reducible refine below_more ?_ _)))) ?_; intro a16 c16 w16 hR16 hb16' _; have hb16 : Below w2.heap.size w2 w16 := Below.trans (by (repeat (first | with_reducible exact Below.refl _ _ | with_reducible assumption | with_reducible refine Below.drew ?_ | with_reducible refine below_drewN ?_ _ | with_reducible refine below_more ?_ _))) hb16')
        | (refine step_app rfl (.tmp 57) (.tmp 59) rfl w2.heap.size a16 (20 + ol) c16 (hd ++ os) da s.da.length dc s.da rfl rfl (by first | exact hR16 | exact Row.of_heap hR16 (by rfl)) (HS2.out.ds.below (B := w2.heap.size) (by (repeat (first | with_reducible exact Below.refl _ _ | with_reducible assumption | with_reducible refine Below.drew ?_ | with_reducible refine below_drewN ?_ _ | with_reducible refine below_more ?_ _))) (Nat.le_refl _)) rfl HDC.out (by have := HDL.out; omega) (Below.size (B := w2.heap.size) (by (repeat (first | with_reducible exact Below.refl _ _ | with_reducible assumption | with_reducible refine Below.drew ?_ | with_reducible refine below_drewN ?_ _ | with_reducible refine below_more ?_ _)))) ?_; intro a17 c17 w17 hR17 hb17' _; have hb17 : Below w2.heap.size w2 w17 := Below.trans (by (repeat (first | with_reducible exact Below.refl _ _ | with_reducible assumption | with_reducible refine Below.drew ?_ | with_reducible refine below_drewN ?_ _ | with_reducible refine below_more ?_ _))) hb17'))
    clear hR15 hb15 hR16 hb16 hb16' hb17' HOB HON
    have hbody : hd ++ os ++ s.da = bodyI s := by rw [bodyI, HOS.out.1, HOS.out.2.1, HHD.out]
    obtain ⟨N, hN⟩ : ∃ N, 20 + ol + s.da.length = N := ⟨_, rfl⟩
    rw [hbody] at hR17
    rw [hN] at hR17 ⊢
    have hbl : (bodyI s).length = N := hR17.len
    have hNb : 20 ≤ N ∧ N ≤ 65060 := by have := HDL.out; omega
    have hyb : Byts (bodyI s) := body_byts HS2.out.ok HC.out
    obtain ⟨g, rfl, hO⟩ := hR17.owns (by omega)
    obtain ⟨bs, hbs⟩ : ∃ bs, bodyI s = bs := ⟨_, rfl⟩
    rw [hbs] at hbl hyb hO
    have HBS : Hid (bodyI s = bs ∧ bs.length = N ∧ Byts bs) := ⟨hbs, hbl, hyb⟩
    have HO : Hid (Owns w17 w2.heap.size g c17 bs) := hO
    clear hR17 hbody hbl hbs hyb hO hN
    go_wp2_with fail
    refine (refPseudo_row src dst (N : Int) _ HS.out.1 HS.out.2 (by omega)).mono ?_
    rintro e w18 ⟨pa, pc, rfl, hP18, hB18⟩
    have HO18 : Hid (Owns w18 w2.heap.size g c17 bs) := HO.out.below hB18 (Nat.le_refl _)
    have HP18 : Hid (Row w18 w17.heap.size pa 12 pc (pseudoI src dst (N : Int))) := hP18
    clear hP18
    go_wp2_with (at_builtin; refine list_app rfl (.tmp 65) (.tmp 66) rfl w17.heap.size pa 12 pc (pseudoI src dst (N : Int)) (some ⟨g, 0, none⟩) N c17 bs rfl rfl HP18.out (HO18.out.bytes HBS.out.2.2) HBS.out.2.1 (fun h => by cases h) (by omega) hB18.size ?_; intro a19 c19 w19 hR19' hb19 _; have HR19 : Hid (Row w19 w17.heap.size a19 (12 + N) c19 (pseudoI src dst (N : Int) ++ bs)) := hR19'; clear hR19')
    have hps : Byts (pseudoI src dst (N : Int) ++ bs) := byts_append (pseudo_byts HS.out.1 HS.out.2) HBS.out.2.2
    have hpl0 : (pseudoI src dst (N : Int) ++ bs).length = 12 + N := HR19.out.len
    have hS := refSum_any a19 c19 (pseudoI src dst (N : Int) ++ bs) w19 (HR19.out.bytes hps (by rw [hpl0]; unfold maxLen; omega)) (by omega)
    rw [hpl0] at hS
    obtain ⟨c, hc⟩ : ∃ c, sumI (pseudoI src dst (N : Int) ++ bs) = c := ⟨_, rfl⟩
    rw [hc] at hS
    have hcb : 0 ≤ c ∧ c ≤ 65535 := by rw [← hc]; exact sum_bd hps
    have HCC : Hid (sumI (pseudoI src dst (N : Int) ++ bs) = c) := hc
    have hO19 : Owns w19 w2.heap.size g c17 bs := HO.out.below (hB18.trans hb19) (Nat.le_refl _)
    have hb19' : Below w2.heap.size w2 w19 := hb17.trans ((hB18.trans hb19).mono hb17.size)
    have hc16 := hO19.cell 16 (by rw [HBS.out.2.1]; omega)
    have hf16 := hO19.frozen 16
    have hc17 := hO19.cell 17 (by rw [HBS.out.2.1]; omega)
    have hf17 := hO19.frozen 17
    have HO19 : Hid (Owns w19 w2.heap.size g c17 bs) := hO19
    refine hS.mono ?_
    clear hS hps hpl0 hc hO19 HO18 HP18 HR19 hB18 hb19
    rintro e w20 ⟨rfl, rfl⟩
    go_wp2_with fail
    go_ret2
    have hput : putI s src dst = (bs.set 16 (c / 256)).set 17 (c % 256) := by
      rw [putI, HBS.out.1, sealI, HBS.out.2.1, HCC.out]
    have hpl : (putI s src dst).length = N := by rw [hput]; simp [HBS.out.2.1]
    rw [hpl, hput]
    have hO21 := (HO19.out.set 16 (c / 256)).set 17 (c % 256)
    refine ⟨_, _, rfl, ?_, HB2.out.trans (((hb19'.setCell (p := ⟨g, 16, none⟩) HO19.out.ge _).setCell (p := ⟨g, 17, none⟩) HO19.out.ge _).mono (by omega))⟩
    have hl21 : ((bs.set 16 (c / 256)).set 17 (c % 256)).length = N := by simp [HBS.out.2.1]
    have hR21 : Row _ w2.heap.size (some ⟨g, 0, none⟩) ((bs.set 16 (c / 256)).set 17 (c % 256)).length c17 ((bs.set 16 (c / 256)).set 17 (c % 256)) := hO21
    rw [hl21] at hR21
    exact hR21.mono (by omega)
end Go.Proofs.YtllmeeebjjmanaaDoor
