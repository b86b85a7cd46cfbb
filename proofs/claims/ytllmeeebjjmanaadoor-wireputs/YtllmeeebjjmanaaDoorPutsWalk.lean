/- The walk of the law which bytes a segment is. -/
import Derived.Test.YtllmeeebjjmanaaDoorRefPut
import Derived.Test.YtllmeeebjjmanaaDoorHeads
namespace Go.Proofs.YtllmeeebjjmanaaDoor
open Go.ChangeShapes Go.WideShapes Go.ChangeAt Go.RowKit Go.Shelf
set_option linter.unusedVariables false


theorem run_convert_bytes_zero' (w : World) (p : Addr) (c : Nat) :
    ∀ dst, Tryd.prog.underlying dst = some .string → (convert 24 dst (.slice (some p) 0 c)).run Tryd.prog w = .ok (.string ByteArray.empty) w := by
  intro dst hd
  rw [run_convert_bytes_string w 24 dst 5 _ 0 c Tryd.underlying24 Tryd.underlying5 hd]
  simp [Conv.bytesToString, loadCells]
  all_goals rfl

/-- What a slice's bytes read as. -/
theorem conv_bytes {w : World} {a : Option Addr} {c : Nat} {xs : List Int} (ha : BytesAt w a xs) :
    ∃ str, (∀ dst, Tryd.prog.underlying dst = some .string → (convert 24 dst (.slice a xs.length c)).run Tryd.prog w = .ok (.string str) w) ∧ str = strOfNums xs := by
  cases a with
  | none =>
    obtain rfl : xs = [] := by
      cases xs with
      | nil => rfl
      | cons x r => obtain ⟨_, _, e, _⟩ := ha.2.2 0 (by simp); cases e
    exact ⟨_, run_convert_bytes_nil (P := Tryd.prog) w 24 5 Tryd.underlying24 Tryd.underlying5 0 c, rfl⟩
  | some x =>
    cases xs with
    | nil => exact ⟨_, run_convert_bytes_zero' w x c, rfl⟩
    | cons y r =>
      obtain ⟨b1, o1, e, _⟩ := ha.2.2 0 (by simp)
      cases e
      exact ⟨_, run_convert_bytes_arg (P := Tryd.prog) w 24 5 Tryd.underlying24 Tryd.underlying5 b1 o1 _ c (y :: r) rfl (fun i hi => by
        obtain ⟨_, _, e, hc⟩ := ha.2.2 i hi
        cases e; simpa using hc), rfl⟩

theorem same_all (a b : Option Addr) (c d : Nat) (xs : List Int) (w : World) (ha : BytesAt w a xs) (hb : BytesAt w b xs) :
    Calls Tryd.prog 12 #[.slice a xs.length c, .slice b xs.length d] w fun e w' => e = .returned (.bool true) ∧ w' = w := by
  obtain ⟨s1, k1', e1⟩ := conv_bytes (c := c) ha
  obtain ⟨s2, k2', e2⟩ := conv_bytes (c := d) hb
  have k1 := k1' 9 Tryd.underlying9
  have k2 := k2' 9 Tryd.underlying9
  rw [e1] at k1
  rw [e2] at k2
  clear ha hb k1' k2' e1 e2
  go_enter Tryd.func12, Tryd.ntmps12
  go_wp2
  go_ret
  exact ⟨ret_bool (by simp), rfl⟩

theorem opt_len_le (s : Seg) (hk : s.sk.length ≤ 1000) : (optI s).length ≤ 9000 := by
  have h1 := raw_len s
  have h2 : (rawI s).length ≤ 8100 := by
    rw [h1]
    split <;> split <;> split <;> split <;> split <;> omega
  have h3 : (padI (rawI s)).length ≤ (rawI s).length + 3 := by
    unfold padI
    simp only [List.length_append, List.length_replicate]
    omega
  unfold optI
  omega

/-- What the two Puts and the two Checks answer, in one. -/
theorem put_both (s : Seg) (ka : Option Addr) (kc : Nat) (da : Option Addr) (dc : Nat) (src dst : Int) (a0 a1 a2 : Addr) (hok : SegOk s) (hdc : da = none → dc = 0) (hsrc : U32 src) (hdst : U32 dst) :
    ∃ (xs : List Int) (r : Int), (0 ≤ r ∧ r ≤ 2) ∧
      (∀ W, Errs W a0 a1 a2 → SegIn W s ka da → Calls Tryd.prog 9 #[.agg (segV s ka kc da dc), .int .u32 src, .int .u32 dst] W fun e w' => ∃ va vc, e = .returned (.tuple #[.slice va xs.length vc, .int .i64 r]) ∧ BytesAt w' va xs ∧ Below W.heap.size W w') ∧
      (∀ W, SegIn W s ka da → Calls Tryd.prog 10 #[.agg (segV s ka kc da dc), .int .u32 src, .int .u32 dst] W fun e w' => ∃ va vc, e = .returned (.tuple #[.slice va xs.length vc, .int .i64 r]) ∧ BytesAt w' va xs ∧ Below W.heap.size W w') ∧
      (∀ W, Errs W a0 a1 a2 → SegIn W s ka da → Calls Tryd.prog 13 #[.agg (segV s ka kc da dc)] W fun e w' => e = .returned (.int .i64 r) ∧ Below W.heap.size W w') ∧
      (∀ W, SegIn W s ka da → Calls Tryd.prog 14 #[.agg (segV s ka kc da dc)] W fun e w' => e = .returned (.int .i64 r) ∧ Below W.heap.size W w') := by
  by_cases hc : ChkI s
  · have hy : Byts (putI s src dst) := seal_byts hsrc hdst (body_byts hok hc)
    have hl : (putI s src dst).length ≤ maxLen := by
      rw [put_len]
      have h1 := hc.2.2.2.2.2.2.2.2.2.2
      have h2 := hc.2.2.2.2.2.2.2.2.1
      unfold maxLen
      omega
    refine ⟨putI s src dst, 0, by decide, fun W hE hs => ?_, fun W hs => ?_, fun W hE hs => ?_, fun W hs => ?_⟩
    · refine (put_ok s ka kc da dc src dst W a0 a1 a2 hE hs hc hdc hsrc hdst).mono ?_
      rintro e w' ⟨va, vc, he, hR, hB⟩
      exact ⟨va, vc, he, hR.bytes hy hl, hB⟩
    · refine (refPut_ok s ka kc da dc src dst W hs hc hdc hsrc hdst).mono ?_
      rintro e w' ⟨va, vc, he, hR, hB⟩
      exact ⟨va, vc, he, hR.bytes hy hl, hB⟩
    · refine (check_any s ka kc da dc W a0 a1 a2 hE hs).mono ?_
      rintro e w' ⟨⟨_, he⟩ | ⟨hn, _⟩, hB⟩
      · exact ⟨he, hB⟩
      · exact absurd hc hn
    · refine (refCheck_any s ka kc da dc W hs).mono ?_
      rintro e w' ⟨⟨_, he⟩ | ⟨hn, _⟩, hB⟩
      · exact ⟨he, hB⟩
      · exact absurd hc hn
  · have hz : ∀ w' : World, BytesAt w' none [] := fun w' => ⟨by simp, fun x hx => by simp at hx, fun j hj => by simp at hj⟩
    refine ⟨[], 2, by decide, fun W hE hs => ?_, fun W hs => ?_, fun W hE hs => ?_, fun W hs => ?_⟩
    · refine (put_no s ka kc da dc src dst W a0 a1 a2 hE hs hc).mono ?_
      rintro e w' ⟨he, hB⟩
      exact ⟨none, 0, he, hz _, hB⟩
    · refine (refPut_no s ka kc da dc src dst W hs hc).mono ?_
      rintro e w' ⟨he, hB⟩
      exact ⟨none, 0, he, hz _, hB⟩
    · refine (check_any s ka kc da dc W a0 a1 a2 hE hs).mono ?_
      rintro e w' ⟨⟨hn, _⟩ | ⟨_, he⟩, hB⟩
      · exact absurd hn hc
      · exact ⟨he, hB⟩
    · refine (refCheck_any s ka kc da dc W hs).mono ?_
      rintro e w' ⟨⟨hn, _⟩ | ⟨_, he⟩, hB⟩
      · exact absurd hn hc
      · exact ⟨he, hB⟩

set_option maxRecDepth 100000 in
set_option maxHeartbeats 2000000 in
theorem puts_far (s : Seg) (ka : Option Addr) (kc : Nat) (da : Option Addr) (dc : Nat) (src dst : Int) (w : World) (a0 a1 a2 : Addr) (hE : Errs w a0 a1 a2) (hs : SegIn w s ka da) (hk : 1000 < s.sk.length) :
    Calls Tryd.prog 3 #[.agg (segV s ka kc da dc), .int .u32 src, .int .u32 dst] w fun e w' => e = .returned (.bool true) ∧ Below w.heap.size w w' := by
  have hc : ¬ ChkI s := fun h => by have := h.2.2.2.2.2.2.2.2.2.1; omega
  obtain ⟨W0, hW0⟩ : ∃ W0, w.alloc (.cells (segV s ka kc da dc) 26) = W0 := ⟨_, rfl⟩
  have hblk : W0.heap[w.heap.size]? = some (.cells (segV s ka kc da dc) 26) := by rw [← hW0]; exact World.alloc_heap_new w _
  have b0 : Below w.heap.size w W0 := by rw [← hW0]; exact (Below.refl _ w).alloc (Nat.le_refl _) _
  have HE : Hid (Errs W0 a0 a1 a2) := hE.below b0 (Nat.le_refl _)
  have HS : Hid (SegIn W0 s ka da) := hs.below b0 (Nat.le_refl _)
  have hp := put_no s ka kc da dc src dst W0 a0 a1 a2 HE.out HS.out hc
  have hq : ∀ W, Below W0.heap.size W0 W → Calls Tryd.prog 10 #[.agg (segV s ka kc da dc), .int .u32 src, .int .u32 dst] W fun e w' => e = .returned (.tuple #[.slice none 0 0, .int .i64 2]) ∧ Below W.heap.size W w' := fun W h => refPut_no s ka kc da dc src dst W (HS.out.below h (Nat.le_refl _)) hc
  obtain ⟨c0, c1, c2, c3, c4, c5, c6, c7, c8, c9, c10, c11, c12, c13, c14⟩ := boxAt_of hblk
  have HP : Hid (Calls Tryd.prog 9 #[.agg (segV s ka kc da dc), .int .u32 src, .int .u32 dst] W0 fun e w' => e = .returned (.tuple #[.slice none 0 0, .int .i64 2]) ∧ Below W0.heap.size W0 w') := hp
  have HQ : Hid (∀ W, Below W0.heap.size W0 W → Calls Tryd.prog 10 #[.agg (segV s ka kc da dc), .int .u32 src, .int .u32 dst] W fun e w' => e = .returned (.tuple #[.slice none 0 0, .int .i64 2]) ∧ Below W.heap.size W w') := hq
  have HBLK : Hid (W0.heap[w.heap.size]? = some (.cells (segV s ka kc da dc) 26)) := hblk
  have hk' : (1000 : Int) < (s.sk.length : Int) := by omega
  clear hp hq hblk hE hs hc hk
  unfold segV at *
  go_enter Tryd.func3, Tryd.ntmps3
  go_wp2_with fail
  refine HP.out.mono ?_
  rintro e w1 ⟨rfl, hB1⟩
  clear c0 c1 c2 c3 c4 c5 c6 c7 c8 c9 c10 c11 c12 c13 c14 hW0
  obtain ⟨c0, c1, c2, c3, c4, c5, c6, c7, c8, c9, c10, c11, c12, c13, c14⟩ := boxAt_of (block_keep HBLK.out hB1 (Nat.le_refl _))
  go_wp2_with fail
  refine (HQ.out _ hB1).mono ?_
  rintro e w2 ⟨rfl, hB2⟩
  have hB12 := Below.on hB1 hB2
  clear c0 c1 c2 c3 c4 c5 c6 c7 c8 c9 c10 c11 c12 c13 c14
  have c13 := (boxAt_of (block_keep HBLK.out hB12 (Nat.le_refl _))).c13
  have HH : Hid (Calls Tryd.prog 11 #[] w2 fun e w' => e = .returned (.bool true) ∧ Below w2.heap.size w2 w') := heads_any w2 a0 a1 a2 (HE.out.below hB12 (Nat.le_refl _))
  have H2 : Hid (Below w.heap.size w w2) := Below.on b0 hB12
  clear hB1 hB2 hB12 b0
  go_wp2_with fail
  refine HH.out.mono ?_
  rintro e w3 ⟨rfl, hB3⟩
  go_wp2_with fail
  go_ret
  exact ⟨rfl, Below.on H2.out hB3⟩

set_option maxRecDepth 100000 in
set_option maxHeartbeats 8000000 in
theorem puts_near (s : Seg) (ka : Option Addr) (kc : Nat) (da : Option Addr) (dc : Nat) (src dst : Int) (w : World) (a0 a1 a2 : Addr) (hE : Errs w a0 a1 a2) (hs : SegIn w s ka da) (hk : s.sk.length ≤ 1000) (hdc : da = none → dc = 0) (hsrc : U32 src) (hdst : U32 dst) :
    Calls Tryd.prog 3 #[.agg (segV s ka kc da dc), .int .u32 src, .int .u32 dst] w fun e w' => e = .returned (.bool true) ∧ Below w.heap.size w w' := by
  obtain ⟨xs, r, hr, hp, hq, hch, hrc⟩ := put_both s ka kc da dc src dst a0 a1 a2 hs.ok hdc hsrc hdst
  obtain ⟨W0, hW0⟩ : ∃ W0, w.alloc (.cells (segV s ka kc da dc) 26) = W0 := ⟨_, rfl⟩
  have hblk : W0.heap[w.heap.size]? = some (.cells (segV s ka kc da dc) 26) := by rw [← hW0]; exact World.alloc_heap_new w _
  have b0 : Below w.heap.size w W0 := by rw [← hW0]; exact (Below.refl _ w).alloc (Nat.le_refl _) _
  have HE : Hid (∀ W, Below W0.heap.size W0 W → Errs W a0 a1 a2) := fun W h => (hE.below b0 (Nat.le_refl _)).below h (Nat.le_refl _)
  have HS : Hid (∀ W, Below W0.heap.size W0 W → SegIn W s ka da) := fun W h => (hs.below b0 (Nat.le_refl _)).below h (Nat.le_refl _)
  obtain ⟨os, hos⟩ : ∃ os, optI s = os := ⟨_, rfl⟩
  have hoy : Byts os := by rw [← hos]; exact opt_byts hs.ok
  have hol : os.length ≤ maxLen := by
    have := opt_len_le s hk
    rw [hos] at this
    unfold maxLen
    omega
  have HP : Hid (Calls Tryd.prog 9 #[.agg (segV s ka kc da dc), .int .u32 src, .int .u32 dst] W0 fun e w' => ∃ va vc, e = .returned (.tuple #[.slice va xs.length vc, .int .i64 r]) ∧ BytesAt w' va xs ∧ Below W0.heap.size W0 w') := hp W0 (HE.out _ (Below.refl _ _)) (HS.out _ (Below.refl _ _))
  have HQ : Hid (∀ W, Below W0.heap.size W0 W → Calls Tryd.prog 10 #[.agg (segV s ka kc da dc), .int .u32 src, .int .u32 dst] W fun e w' => ∃ va vc, e = .returned (.tuple #[.slice va xs.length vc, .int .i64 r]) ∧ BytesAt w' va xs ∧ Below W.heap.size W w') := fun W h => hq W (HS.out _ h)
  have CHK : Hid (∀ W, Below W0.heap.size W0 W → Calls Tryd.prog 13 #[.agg (segV s ka kc da dc)] W fun e w' => e = .returned (.int .i64 r) ∧ Below W0.heap.size W0 w' ∧ Below W.heap.size W w') := fun W h => (hch W (HE.out _ h) (HS.out _ h)).mono fun e w' h' => ⟨h'.1, Below.on h h'.2, h'.2⟩
  have RCHK : Hid (∀ W, Below W0.heap.size W0 W → Calls Tryd.prog 14 #[.agg (segV s ka kc da dc)] W fun e w' => e = .returned (.int .i64 r) ∧ Below W0.heap.size W0 w' ∧ Below W.heap.size W w') := fun W h => (hrc W (HS.out _ h)).mono fun e w' h' => ⟨h'.1, Below.on h h'.2, h'.2⟩
  have OPT : Hid (∀ W, Below W0.heap.size W0 W → Calls Tryd.prog 15 #[.agg (segV s ka kc da dc)] W fun e w' => ∃ va vc, e = .returned (.slice va os.length vc) ∧ BytesAt w' va os ∧ Below W0.heap.size W0 w') := fun W h => (options_any s ka kc da dc W (HS.out _ h) hk).mono fun e w' h' => by
    obtain ⟨va, vc, h1, h2, h3⟩ := h'
    rw [hos] at h1 h2
    exact ⟨va, vc, h1, h2.bytes hoy hol, Below.on h h3⟩
  have ROPT : Hid (∀ W, Below W0.heap.size W0 W → Calls Tryd.prog 16 #[.agg (segV s ka kc da dc)] W fun e w' => ∃ va vc, e = .returned (.slice va os.length vc) ∧ BytesAt w' va os ∧ Below W0.heap.size W0 w' ∧ Below W.heap.size W w') := fun W h => (refOptions_any s ka kc da dc W (HS.out _ h) hk).mono fun e w' h' => by
    obtain ⟨va, vc, h1, h2, h3⟩ := h'
    rw [hos] at h1 h2
    exact ⟨va, vc, h1, h2.bytes hoy hol, Below.on h h3, h3⟩
  have HEADS : Hid (∀ W, Below W0.heap.size W0 W → Calls Tryd.prog 11 #[] W fun e w' => e = .returned (.bool true) ∧ Below W0.heap.size W0 w') := fun W hW => (heads_any W a0 a1 a2 (HE.out _ hW)).mono fun e w' h => ⟨h.1, Below.on hW h.2⟩
  obtain ⟨c0, c1, c2, c3, c4, c5, c6, c7, c8, c9, c10, c11, c12, c13, c14⟩ := boxAt_of hblk
  have HBLK : Hid (W0.heap[w.heap.size]? = some (.cells (segV s ka kc da dc) 26)) := hblk
  have CK : Hid (∀ W, Below W0.heap.size W0 W → ∀ k, W.cell? ⟨w.heap.size, k, none⟩ = (#[.int .i64 s.sp, .int .i64 s.dp, .int .u32 s.sq, .int .u32 s.ak, .int .i64 s.fl, .int .i64 s.wn, .int .i64 s.ur, .int .i64 s.ms, .int .i64 s.sc, .bool s.so, .bool s.st, .int .u32 s.va, .int .u32 s.ec, .slice ka s.sk.length kc, .slice da s.da.length dc] : Array Value)[k]?) := fun W hW k => box_cells (block_keep hblk hW (Nat.le_refl _)) k
  have H0 : Hid (Below w.heap.size w W0) := b0
  have hk' : ¬ (1000 : Int) < (s.sk.length : Int) := by omega
  obtain ⟨hr0, hr1⟩ := hr
  clear hp hq hch hrc hblk hE hs hk b0 hos hoy hol hdc hsrc hdst HE HS
  unfold segV at *
  go_enter Tryd.func3, Tryd.ntmps3
  go_wp2_with fail
  refine HP.out.mono ?_
  rintro e w1 ⟨va, vc, rfl, hy1, hB1⟩
  clear c0 c1 c2 c3 c4 c5 c6 c7 c8 c9 c10 c11 c12 c13 c14 hW0
  obtain ⟨c0, c1, c2, c3, c4, c5, c6, c7, c8, c9, c10, c11, c12, c13, c14⟩ := boxAt_of (block_keep HBLK.out hB1 (Nat.le_refl _))
  go_wp2_with fail
  refine (HQ.out _ hB1).mono ?_
  rintro e w2 ⟨vb, vd, rfl, hy2, hB2⟩
  have hB12 := Below.on hB1 hB2
  have SAME : Hid (∀ W, Below w2.heap.size w2 W → Calls Tryd.prog 12 #[.slice va xs.length vc, .slice vb xs.length vd] W fun e w' => e = .returned (.bool true) ∧ w' = W) := fun W h => same_all va vb vc vd xs W ((hy1.below hB2 (Nat.le_refl _)).below h (Nat.le_refl _)) (hy2.below h (Nat.le_refl _))
  clear c0 c1 c2 c3 c4 c5 c6 c7 c8 c9 c10 c11 c12 c13 c14
  have c13 := (boxAt_of (block_keep HBLK.out hB12 (Nat.le_refl _))).c13
  clear hB1 hB2 hy1 hy2 HBLK
  go_upto_region 5 with fail
  clear c13
  go_region_held3 (fun W => (∀ k, W.cell? ⟨w.heap.size, k, none⟩ = (#[.int .i64 s.sp, .int .i64 s.dp, .int .u32 s.sq, .int .u32 s.ak, .int .i64 s.fl, .int .i64 s.wn, .int .i64 s.ur, .int .i64 s.ms, .int .i64 s.sc, .bool s.so, .bool s.st, .int .u32 s.va, .int .u32 s.ec, .slice ka s.sk.length kc, .slice da s.da.length dc] : Array Value)[k]?) ∧ Below W0.heap.size W0 W) (refine ⟨CK.out _ ?_, ?_⟩ <;> (repeat (first | with_reducible exact Below.refl _ _ | with_reducible assumption | with_reducible refine Below.drew ?_ | with_reducible refine below_drewN ?_ _)))
    (first
      | (go_at_call 12; have hyb' := hyb; refine (same_all _ _ _ _ os _ (hya.below hbb (Nat.le_refl _)) hyb').mono ?_; rintro e w' ⟨rfl, rfl⟩)
      | (go_at_call 12; refine (SAME.out _ (by (repeat (first | with_reducible exact Below.refl _ _ | with_reducible assumption | with_reducible refine Below.drew ?_ | with_reducible refine below_drewN ?_ _)))).mono ?_; rintro e w' ⟨rfl, rfl⟩)
      | (go_at_call 13; refine (CHK.out _ (by (repeat (first | with_reducible exact Below.refl _ _ | with_reducible assumption | with_reducible refine Below.drew ?_ | with_reducible refine below_drewN ?_ _)))).mono ?_; rintro e w4 ⟨rfl, hb4, _⟩)
      | (go_at_call 14; refine (RCHK.out _ (by (repeat (first | with_reducible exact Below.refl _ _ | with_reducible assumption | with_reducible refine Below.drew ?_ | with_reducible refine below_drewN ?_ _)))).mono ?_; rintro e w5 ⟨rfl, hb5, _⟩)
      | (go_at_call 15; refine (OPT.out _ (by (repeat (first | with_reducible exact Below.refl _ _ | with_reducible assumption | with_reducible refine Below.drew ?_ | with_reducible refine below_drewN ?_ _)))).mono ?_; rintro e w6 ⟨oa, oc, rfl, hya, hb6⟩)
      | (go_at_call 16; refine (ROPT.out _ (by (repeat (first | with_reducible exact Below.refl _ _ | with_reducible assumption | with_reducible refine Below.drew ?_ | with_reducible refine below_drewN ?_ _)))).mono ?_; rintro e w7 ⟨pa, pc, rfl, hyb, hb7, hbb⟩)
      | (go_at_call 11; refine (HEADS.out _ (by (repeat (first | with_reducible exact Below.refl _ _ | with_reducible assumption | with_reducible refine Below.drew ?_ | with_reducible refine below_drewN ?_ _)))).mono ?_; rintro e w8 ⟨rfl, hb8⟩))
  all_goals go_wp2_with fail
  all_goals go_ret
  all_goals exact ⟨rfl, Below.on H0.out (by (repeat (first | with_reducible exact Below.refl _ _ | with_reducible assumption | with_reducible refine Below.drew ?_ | with_reducible refine below_drewN ?_ _)))⟩

theorem puts_any (s : Seg) (ka : Option Addr) (kc : Nat) (da : Option Addr) (dc : Nat) (src dst : Int) (w : World) (a0 a1 a2 : Addr) (hE : Errs w a0 a1 a2) (hs : SegIn w s ka da) (hdc : da = none → dc = 0) (hsrc : U32 src) (hdst : U32 dst) :
    Calls Tryd.prog 3 #[.agg (segV s ka kc da dc), .int .u32 src, .int .u32 dst] w fun e w' => e = .returned (.bool true) ∧ Below w.heap.size w w' := by
  by_cases hk : s.sk.length ≤ 1000
  · exact puts_near s ka kc da dc src dst w a0 a1 a2 hE hs hk hdc hsrc hdst
  · exact puts_far s ka kc da dc src dst w a0 a1 a2 hE hs (by omega)
end Go.Proofs.YtllmeeebjjmanaaDoor
