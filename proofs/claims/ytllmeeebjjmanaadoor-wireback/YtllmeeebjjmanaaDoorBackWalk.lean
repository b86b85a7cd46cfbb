/- The walk of the law that what is written is read as it was. -/
import Derived.Test.YtllmeeebjjmanaaDoorHeads
namespace Go.Proofs.YtllmeeebjjmanaaDoor
open Go.ChangeShapes Go.WideShapes Go.ChangeAt Go.RowKit Go.Shelf
set_option linter.unusedVariables false

set_option maxRecDepth 100000 in
set_option maxHeartbeats 2000000 in
theorem back_no (s : Seg) (ka : Option Addr) (kc : Nat) (da : Option Addr) (dc : Nat) (src dst : Int) (w : World) (a0 a1 a2 : Addr) (hE : Errs w a0 a1 a2) (hs : SegIn w s ka da) (hc : ¬ ChkI s) :
    Calls Tryd.prog 6 #[.agg (segV s ka kc da dc), .int .u32 src, .int .u32 dst] w fun e w' => e = .returned (.bool true) ∧ Below w.heap.size w w' := by
  obtain ⟨W0, hW0⟩ : ∃ W0, w.alloc (.cells (segV s ka kc da dc) 26) = W0 := ⟨_, rfl⟩
  have hblk : W0.heap[w.heap.size]? = some (.cells (segV s ka kc da dc) 26) := by rw [← hW0]; exact World.alloc_heap_new w _
  have b0 : Below w.heap.size w W0 := by rw [← hW0]; exact (Below.refl _ w).alloc (Nat.le_refl _) _
  have HE : Hid (Errs W0 a0 a1 a2) := hE.below b0 (Nat.le_refl _)
  have hk := check_any s ka kc da dc W0 a0 a1 a2 HE.out (hs.below b0 (Nat.le_refl _))
  obtain ⟨c0, c1, c2, c3, c4, c5, c6, c7, c8, c9, c10, c11, c12, c13, c14⟩ := boxAt_of hblk
  have HK : Hid (Calls Tryd.prog 13 #[.agg (segV s ka kc da dc)] W0 fun e w' => ((ChkI s ∧ e = .returned (.int .i64 0)) ∨ (¬ ChkI s ∧ e = .returned (.int .i64 2))) ∧ Below W0.heap.size W0 w') := hk
  clear hk hblk hE hs
  unfold segV at *
  go_enter Tryd.func6, Tryd.ntmps6
  go_wp2_with fail
  refine HK.out.mono ?_
  rintro e w1 ⟨he, hB1⟩
  rcases he with ⟨hn, _⟩ | ⟨_, rfl⟩
  · exact absurd hn hc
  have hh := heads_any w1 a0 a1 a2 (HE.out.below hB1 (Nat.le_refl _))
  have HH : Hid (Calls Tryd.prog 11 #[] w1 fun e w' => e = .returned (.bool true) ∧ Below w1.heap.size w1 w') := hh
  have H1 : Hid (Below w.heap.size w w1) := b0.trans (hB1.mono b0.size)
  clear hh hB1 b0 c0 c1 c2 c3 c4 c5 c6 c7 c8 c9 c10 c11 c12 c13 c14 hW0
  go_wp2_with fail
  refine HH.out.mono ?_
  rintro e w2 ⟨rfl, hB2⟩
  go_wp2_with fail
  go_ret
  exact ⟨rfl, H1.out.trans (hB2.mono H1.out.size)⟩

set_option maxRecDepth 100000 in
set_option maxHeartbeats 8000000 in
theorem back_ok (s : Seg) (ka : Option Addr) (kc : Nat) (da : Option Addr) (dc : Nat) (src dst : Int) (w : World) (a0 a1 a2 : Addr) (hE : Errs w a0 a1 a2) (hs : SegIn w s ka da) (hc : ChkI s) (hdc : da = none → dc = 0) (hsrc : U32 src) (hdst : U32 dst) :
    Calls Tryd.prog 6 #[.agg (segV s ka kc da dc), .int .u32 src, .int .u32 dst] w fun e w' => e = .returned (.bool true) ∧ Below w.heap.size w w' := by
  obtain ⟨W0, hW0⟩ : ∃ W0, w.alloc (.cells (segV s ka kc da dc) 26) = W0 := ⟨_, rfl⟩
  have hblk : W0.heap[w.heap.size]? = some (.cells (segV s ka kc da dc) 26) := by rw [← hW0]; exact World.alloc_heap_new w _
  have b0 : Below w.heap.size w W0 := by rw [← hW0]; exact (Below.refl _ w).alloc (Nat.le_refl _) _
  have HE : Hid (Errs W0 a0 a1 a2) := hE.below b0 (Nat.le_refl _)
  have HS : Hid (SegIn W0 s ka da) := hs.below b0 (Nat.le_refl _)
  have hk := check_any s ka kc da dc W0 a0 a1 a2 HE.out HS.out
  obtain ⟨c0, c1, c2, c3, c4, c5, c6, c7, c8, c9, c10, c11, c12, c13, c14⟩ := boxAt_of hblk
  have HK : Hid (Calls Tryd.prog 13 #[.agg (segV s ka kc da dc)] W0 fun e w' => ((ChkI s ∧ e = .returned (.int .i64 0)) ∨ (¬ ChkI s ∧ e = .returned (.int .i64 2))) ∧ Below W0.heap.size W0 w') := hk
  have HC : Hid (ChkI s ∧ (da = none → dc = 0) ∧ U32 src ∧ U32 dst) := ⟨hc, hdc, hsrc, hdst⟩
  have HBX : Hid (W0.heap[w.heap.size]? = some (.cells (segV s ka kc da dc) 26)) := hblk
  have HB0 : Hid (Below w.heap.size w W0) := b0
  clear hk hblk hE hs hc hdc hsrc hdst b0
  unfold segV at *
  go_enter Tryd.func6, Tryd.ntmps6
  go_wp2_with fail
  refine HK.out.mono ?_
  rintro e w1 ⟨he, hB1⟩
  rcases he with ⟨_, rfl⟩ | ⟨hn, _⟩
  case inr => exact absurd HC.out.1 hn
  clear c0 c1 c2 c3 c4 c5 c6 c7 c8 c9 c10 c11 c12 c13 c14 hW0
  have hblk1 : w1.heap[w.heap.size]? = some (.cells (segV s ka kc da dc) 26) := block_keep HBX.out hB1 (Nat.le_refl _)
  obtain ⟨c0, c1, c2, c3, c4, c5, c6, c7, c8, c9, c10, c11, c12, c13, c14⟩ := boxAt_of hblk1
  have HS1 : Hid (SegIn w1 s ka da) := HS.out.below hB1 (Nat.le_refl _)
  have HE1 : Hid (Errs w1 a0 a1 a2) := HE.out.below hB1 (Nat.le_refl _)
  have hput := put_ok s ka kc da dc src dst w1 a0 a1 a2 HE1.out HS1.out HC.out.1 HC.out.2.1 HC.out.2.2.1 HC.out.2.2.2
  have hPg := get_put HS1.out.ok HC.out.1 HC.out.2.2.1 HC.out.2.2.2
  have hPl := put_len s src dst
  have hPb : Byts (putI s src dst) := seal_byts HC.out.2.2.1 HC.out.2.2.2 (body_byts HS1.out.ok HC.out.1)
  obtain ⟨P, hP⟩ : ∃ P, putI s src dst = P := ⟨_, rfl⟩
  obtain ⟨n, hn⟩ : ∃ n, P.length = n := ⟨_, rfl⟩
  rw [hP] at hPg hPl hPb
  simp only [hP, hn] at hput
  rw [hn] at hPl
  have hdl : s.da.length ≤ 65000 := HC.out.1.2.2.2.2.2.2.2.2.1
  have hol40 : (optI s).length ≤ 40 := HC.out.1.2.2.2.2.2.2.2.2.2.2
  obtain ⟨ol, hol⟩ : ∃ ol, (optI s).length = ol := ⟨_, rfl⟩
  rw [hol] at hPl hol40
  have hni : (n : Int) = 20 + (ol : Int) + (s.da.length : Int) := by omega
  have HPUT : Hid (Calls Tryd.prog 9 #[.agg (segV s ka kc da dc), .int .u32 src, .int .u32 dst] w1 fun e w' => ∃ va vc, e = .returned (.tuple #[.slice va n vc, .int .i64 0]) ∧ Row w' w1.heap.size va n vc P ∧ Below w1.heap.size w1 w') := hput
  have HP : Hid (P.length = n ∧ getI P src dst = (0, s) ∧ Byts P ∧ (optI s).length = ol ∧ 20 ≤ n ∧ n ≤ 65060) := ⟨hn, hPg, hPb, hol, by omega, by omega⟩
  have H1 : Hid (Below w.heap.size w w1 ∧ w1.heap[w.heap.size]? = some (.cells (segV s ka kc da dc) 26)) := ⟨HB0.out.trans (hB1.mono HB0.out.size), hblk1⟩
  clear hput hPg hPl hPb hP hn hB1 hblk1 HBX HB0 HS HE hol
  go_wp2_with fail
  refine HPUT.out.mono ?_
  rintro e w2 ⟨va, vc, rfl, hR, hB2⟩
  have hn20 : 20 ≤ n := HP.out.2.2.2.2.1
  obtain ⟨g, rfl, ho⟩ := hR.owns (by omega)
  have hcap : n ≤ vc := hR.cap
  have hbP : BytesAt w2 (some ⟨g, 0, none⟩) P := hR.bytes HP.out.2.2.1 (by rw [HP.out.1]; have := HP.out.2.2.2.2.2; unfold maxLen; omega)
  have HGET : Hid (Calls Tryd.prog 17 #[.slice (some ⟨g, 0, none⟩) n vc, .int .u32 src, .int .u32 dst] w2 fun e w' => (∃ ka kc da dc, e = .returned (.tuple #[.agg (segV s ka kc da dc), .int .i64 0]) ∧ BlksAt w' ka s.sk ∧ BytesAt w' da s.da) ∧ Below w2.heap.size w2 w') := get_fine g 0 n vc P src dst s w2 hbP HP.out.1 hcap HC.out.2.2.1 HC.out.2.2.2 HP.out.2.1
  have H2 : Hid (Below w1.heap.size w1 w2) := hB2
  clear hR hB2 ho hbP HPUT hcap hn20 c0 c1 c2 c3 c4 c5 c6 c7 c8 c9 c10 c11 c12 c13 c14
  go_wp2_with fail
  refine HGET.out.mono ?_
  rintro e w3 ⟨⟨ja, jc, fa, fc, rfl, hk, hd⟩, hB3⟩
  have H3 : Hid (Below w2.heap.size w2 w3 ∧ BlksAt w3 ja s.sk ∧ BytesAt w3 fa s.da) := ⟨hB3, hk, hd⟩
  clear hk hd hB3 HGET
  unfold segV
  go_upto_region 5 with fail
  obtain ⟨W3, hW3⟩ : ∃ W3, w3.alloc (.cells #[.int .i64 s.sp, .int .i64 s.dp, .int .u32 s.sq, .int .u32 s.ak, .int .i64 s.fl, .int .i64 s.wn, .int .i64 s.ur, .int .i64 s.ms, .int .i64 s.sc, .bool s.so, .bool s.st, .int .u32 s.va, .int .u32 s.ec, .slice ja s.sk.length jc, .slice fa s.da.length fc] 26) = W3 := ⟨_, rfl⟩
  rw [hW3]
  have b3 : Below w3.heap.size w3 W3 := by rw [← hW3]; exact (Below.refl _ w3).alloc (Nat.le_refl _) _
  have hz3 : W3.heap[w3.heap.size]? = some (.cells (segV s ja jc fa fc) 26) := by rw [← hW3]; exact World.alloc_heap_new w3 _
  have b13 : Below w1.heap.size w1 W3 := (H2.out.trans (H3.out.1.mono H2.out.size)).trans (b3.mono (by have := H2.out.size; have := H3.out.1.size; omega))
  have hz1 : W3.heap[w.heap.size]? = some (.cells (segV s ka kc da dc) 26) := block_keep H1.out.2 b13 (Nat.le_refl _)
  have hks := H3.out.2.1.below b3 (Nat.le_refl _)
  have hds := H3.out.2.2.below b3 (Nat.le_refl _)
  have hs3 := HS1.out.below b13 (Nat.le_refl _)
  have hE3 := HE1.out.below b13 (Nat.le_refl _)
  have CK : Hid (∀ W, Below W3.heap.size W3 W → ∀ k, W.cell? ⟨w.heap.size, k, none⟩ = (#[.int .i64 s.sp, .int .i64 s.dp, .int .u32 s.sq, .int .u32 s.ak, .int .i64 s.fl, .int .i64 s.wn, .int .i64 s.ur, .int .i64 s.ms, .int .i64 s.sc, .bool s.so, .bool s.st, .int .u32 s.va, .int .u32 s.ec, .slice ka s.sk.length kc, .slice da s.da.length dc] : Array Value)[k]?) := fun W hW k => box_cells (block_keep hz1 hW (Nat.le_refl _)) k
  have CJ : Hid (∀ W, Below W3.heap.size W3 W → ∀ k, W.cell? ⟨w3.heap.size, k, none⟩ = (#[.int .i64 s.sp, .int .i64 s.dp, .int .u32 s.sq, .int .u32 s.ak, .int .i64 s.fl, .int .i64 s.wn, .int .i64 s.ur, .int .i64 s.ms, .int .i64 s.sc, .bool s.so, .bool s.st, .int .u32 s.va, .int .u32 s.ec, .slice ja s.sk.length jc, .slice fa s.da.length fc] : Array Value)[k]?) := fun W hW k => box_cells (block_keep hz3 hW (Nat.le_refl _)) k
  have SAME : Hid (∀ W, Below W3.heap.size W3 W → Calls Tryd.prog 19 #[.agg #[.int .i64 s.sp, .int .i64 s.dp, .int .u32 s.sq, .int .u32 s.ak, .int .i64 s.fl, .int .i64 s.wn, .int .i64 s.ur, .int .i64 s.ms, .int .i64 s.sc, .bool s.so, .bool s.st, .int .u32 s.va, .int .u32 s.ec, .slice ja s.sk.length jc, .slice fa s.da.length fc], .agg #[.int .i64 s.sp, .int .i64 s.dp, .int .u32 s.sq, .int .u32 s.ak, .int .i64 s.fl, .int .i64 s.wn, .int .i64 s.ur, .int .i64 s.ms, .int .i64 s.sc, .bool s.so, .bool s.st, .int .u32 s.va, .int .u32 s.ec, .slice ka s.sk.length kc, .slice da s.da.length dc]] W fun e w' => e = .returned (.bool true) ∧ Below W3.heap.size W3 w') := fun W hW =>
    (segSame s ja jc fa fc ka kc da dc W (hks.below hW (Nat.le_refl _)) (hs3.ks.below hW (Nat.le_refl _)) (hds.below hW (Nat.le_refl _)) (hs3.ds.below hW (Nat.le_refl _)) (by have := HC.out.1.2.2.2.2.2.2.2.2.2.1; omega)).mono fun e w' h => ⟨h.1, hW.trans (h.2.mono hW.size)⟩
  have OPTS : Hid (∀ W, Below W3.heap.size W3 W → Calls Tryd.prog 15 #[.agg #[.int .i64 s.sp, .int .i64 s.dp, .int .u32 s.sq, .int .u32 s.ak, .int .i64 s.fl, .int .i64 s.wn, .int .i64 s.ur, .int .i64 s.ms, .int .i64 s.sc, .bool s.so, .bool s.st, .int .u32 s.va, .int .u32 s.ec, .slice ka s.sk.length kc, .slice da s.da.length dc]] W fun e w' => ∃ va vc, e = .returned (.slice va ol vc) ∧ Below W3.heap.size W3 w') := fun W hW =>
    (options_any s ka kc da dc W (hs3.below hW (Nat.le_refl _)) (by have := HC.out.1.2.2.2.2.2.2.2.2.2.1; omega)).mono fun e w' h => by
      obtain ⟨va, vc, h1, _, h3⟩ := h
      rw [HP.out.2.2.2.1] at h1
      exact ⟨va, vc, h1, hW.trans (h3.mono hW.size)⟩
  have HEADS : Hid (∀ W, Below W3.heap.size W3 W → Calls Tryd.prog 11 #[] W fun e w' => e = .returned (.bool true) ∧ Below W3.heap.size W3 w') := fun W hW =>
    (heads_any W a0 a1 a2 (hE3.below hW (Nat.le_refl _))).mono fun e w' h => ⟨h.1, hW.trans (h.2.mono hW.size)⟩
  have H4 : Hid (Below w.heap.size w W3) := H1.out.1.trans (b13.mono H1.out.1.size)
  have hw1 : IntKind.i64.wrap (20 + (ol : Int)) = 20 + (ol : Int) := i64w (by omega) (by omega)
  have hw2 : IntKind.i64.wrap (20 + (ol : Int) + (s.da.length : Int)) = (n : Int) := by rw [hni]; exact i64w (by omega) (by omega)
  have hol' : (ol : Int) ≤ 40 := by omega
  have hdl' : (s.da.length : Int) ≤ 65000 := by omega
  clear b3 hz3 b13 hz1 hks hds hs3 hE3 hW3 hni
  go_region_held3 (fun W => (∀ k, W.cell? ⟨w.heap.size, k, none⟩ = (#[.int .i64 s.sp, .int .i64 s.dp, .int .u32 s.sq, .int .u32 s.ak, .int .i64 s.fl, .int .i64 s.wn, .int .i64 s.ur, .int .i64 s.ms, .int .i64 s.sc, .bool s.so, .bool s.st, .int .u32 s.va, .int .u32 s.ec, .slice ka s.sk.length kc, .slice da s.da.length dc] : Array Value)[k]?) ∧ (∀ k, W.cell? ⟨w3.heap.size, k, none⟩ = (#[.int .i64 s.sp, .int .i64 s.dp, .int .u32 s.sq, .int .u32 s.ak, .int .i64 s.fl, .int .i64 s.wn, .int .i64 s.ur, .int .i64 s.ms, .int .i64 s.sc, .bool s.so, .bool s.st, .int .u32 s.va, .int .u32 s.ec, .slice ja s.sk.length jc, .slice fa s.da.length fc] : Array Value)[k]?) ∧ Below W3.heap.size W3 W) (refine ⟨CK.out _ ?_, CJ.out _ ?_, ?_⟩ <;> (repeat (first | with_reducible exact Below.refl _ _ | with_reducible assumption | with_reducible refine Below.drew ?_ | with_reducible refine below_drewN ?_ _)))
    (first
      | (go_at_call 19; refine (SAME.out _ (by repeat (first | with_reducible exact Below.refl _ _ | with_reducible assumption | with_reducible refine Below.drew ?_ | with_reducible refine below_drewN ?_ _))).mono ?_; rintro e w' ⟨rfl, hB⟩)
      | (go_at_call 15; refine (OPTS.out _ (by repeat (first | with_reducible exact Below.refl _ _ | with_reducible assumption | with_reducible refine Below.drew ?_ | with_reducible refine below_drewN ?_ _))).mono ?_; rintro e w' ⟨va, vv, rfl, hB⟩)
      | (go_at_call 11; refine (HEADS.out _ (by repeat (first | with_reducible exact Below.refl _ _ | with_reducible assumption | with_reducible refine Below.drew ?_ | with_reducible refine below_drewN ?_ _))).mono ?_; rintro e w' ⟨rfl, hB⟩))
  all_goals go_wp2_with fail
  all_goals go_ret
  all_goals exact ⟨rfl, H4.out.trans (Below.mono (by repeat (first | with_reducible exact Below.refl _ _ | with_reducible assumption | with_reducible refine Below.drew ?_ | with_reducible refine below_drewN ?_ _)) H4.out.size)⟩

theorem back_any (s : Seg) (ka : Option Addr) (kc : Nat) (da : Option Addr) (dc : Nat) (src dst : Int) (w : World) (a0 a1 a2 : Addr) (hE : Errs w a0 a1 a2) (hs : SegIn w s ka da) (hdc : da = none → dc = 0) (hsrc : U32 src) (hdst : U32 dst) :
    Calls Tryd.prog 6 #[.agg (segV s ka kc da dc), .int .u32 src, .int .u32 dst] w fun e w' => e = .returned (.bool true) ∧ Below w.heap.size w w' := by
  by_cases hc : ChkI s
  · exact back_ok s ka kc da dc src dst w a0 a1 a2 hE hs hc hdc hsrc hdst
  · exact back_no s ka kc da dc src dst w a0 a1 a2 hE hs hc
end Go.Proofs.YtllmeeebjjmanaaDoor
