/- What must come at any rate: the contract of heads. -/
import Derived.Test.YtllmeeebjjmanaaDoorGetOk
import Derived.Test.YtllmeeebjjmanaaDoorSame
import Derived.Test.YtllmeeebjjmanaaDoorBack
namespace Go.Proofs.YtllmeeebjjmanaaDoor
open Go.ChangeShapes Go.WideShapes Go.ChangeAt Go.RowKit Go.Shelf
set_option linter.unusedVariables false

def headS : Seg := ⟨1, 2, 3, 0, 16, 0, 0, -1, -1, false, true, 7, 0, [], [9]⟩

theorem headS_chk : ChkI headS := by unfold ChkI; decide +kernel
theorem headS_put : (putI headS 5 6).length = 33 := by decide +kernel
theorem headS_sum : (sumI (pseudoI 5 7 ((33 : Nat) : Int) ++ putI headS 5 6) == 0) = false := by decide +kernel
theorem headS_off : offI (putI headS 5 6) = 32 := by decide +kernel
theorem headS_byts : Byts (putI headS 5 6) := by unfold Byts; decide +kernel
theorem headS_ok : SegOk headS := ⟨by unfold U32 headS; decide, by unfold U32 headS; decide, by unfold U32 headS; decide, by unfold U32 headS; decide, (fun b hb => by cases hb), by unfold Byts headS; decide⟩

theorem Row.cap {w : World} {B g L vc : Nat} {bs : List Int} (h : Row w B (some ⟨g, 0, none⟩) L vc bs) : L ≤ vc := by
  rcases h.2 with ⟨h', _⟩ | ⟨g', c', cur, h', hb, hh, hc, _⟩
  · simp at h'
  · cases h'; exact hc

theorem row_one (w : World) (x : Int) : Row (w.alloc (.cells #[.int .u8 x] 5)) w.heap.size (some ⟨w.heap.size, 0, none⟩) 1 1 [x] :=
  ⟨rfl, .inr ⟨w.heap.size, 1, #[.int .u8 x], rfl, Nat.le_refl _, World.alloc_heap_new w _, Nat.le_refl _, by unfold maxLen; omega, rfl, rfl⟩⟩

set_option maxRecDepth 100000 in
set_option maxHeartbeats 4000000 in
theorem heads_any (w : World) (a0 a1 a2 : Addr) (hE : Errs w a0 a1 a2) :
    Calls Tryd.prog 11 #[] w fun e w' => e = .returned (.bool true) ∧ Below w.heap.size w w' := by
  obtain ⟨A, hA⟩ : ∃ A, w.alloc (.cells #[.int .u8 9] 5) = A := ⟨_, rfl⟩
  have sA : A.heap.size = w.heap.size + 1 := by rw [← hA]; simp
  obtain ⟨W1, hW1⟩ : ∃ W1, A.alloc (.cells #[.int .i64 1, .int .i64 2, .int .u32 3, .int .u32 0, .int .i64 16, .int .i64 0, .int .i64 0, .int .i64 (-1), .int .i64 (-1), .bool false, .bool true, .int .u32 7, .int .u32 0, .slice none 0 0, .slice (some ⟨w.heap.size, 0, none⟩) 1 1] 26) = W1 := ⟨_, rfl⟩
  have s1 : W1.heap.size = w.heap.size + 2 := by rw [← hW1]; simp [sA]
  have bA : Below w.heap.size w A := by rw [← hA]; exact (Below.refl _ w).alloc (Nat.le_refl _) _
  have b1 : Below w.heap.size w W1 := by rw [← hW1]; exact bA.alloc (by omega) _
  have hblk : W1.heap[w.heap.size + 1]? = some (.cells (segV headS none 0 (some ⟨w.heap.size, 0, none⟩) 1) 26) := by
    rw [← hW1, ← sA]; exact World.alloc_heap_new A _
  have hby : BytesAt W1 (some ⟨w.heap.size, 0, none⟩) [9] := by
    rw [← hW1, ← hA]
    exact ((row_one w 9).alloc _).bytes (by unfold Byts; decide) (by simp [maxLen])
  have hsin : SegIn W1 headS none (some ⟨w.heap.size, 0, none⟩) := ⟨headS_ok, blks_none _, hby, by decide, by decide, by decide, by decide, by decide, by decide, by decide, fun h => by cases h⟩
  have hput := put_ok headS none 0 (some ⟨w.heap.size, 0, none⟩) 1 5 6 W1 a0 a1 a2 (hE.below b1 (Nat.le_refl _)) hsin headS_chk (fun h => by cases h) (by unfold U32; decide) (by unfold U32; decide)
  have hPl := headS_put
  have hPs := headS_sum
  have hPo := headS_off
  have hPb := headS_byts
  have hPg : getI (putI headS 5 6) 5 6 = (0, headS) := get_put headS_ok headS_chk (by unfold U32; decide) (by unfold U32; decide)
  obtain ⟨P, hP⟩ : ∃ P, putI headS 5 6 = P := ⟨_, rfl⟩
  rw [hP] at hPl hPs hPo hPb hPg
  simp only [hP, hPl] at hput
  have HPUT : Hid (Calls Tryd.prog 9 #[.agg (segV headS none 0 (some ⟨w.heap.size, 0, none⟩) 1), .int .u32 5, .int .u32 6] W1 fun e w' => ∃ va vc, e = .returned (.tuple #[.slice va 33 vc, .int .i64 0]) ∧ Row w' W1.heap.size va 33 vc P ∧ Below W1.heap.size W1 w') := hput
  have HP : Hid (P.length = 33 ∧ (sumI (pseudoI 5 7 ((33 : Nat) : Int) ++ P) == 0) = false ∧ offI P = 32 ∧ Byts P ∧ getI P 5 6 = (0, headS)) := ⟨hPl, hPs, hPo, hPb, hPg⟩
  have H1 : Hid (Below w.heap.size w W1 ∧ W1.heap[w.heap.size + 1]? = some (.cells (segV headS none 0 (some ⟨w.heap.size, 0, none⟩) 1) 26) ∧ BytesAt W1 (some ⟨w.heap.size, 0, none⟩) [9] ∧ Errs W1 a0 a1 a2 ∧ W1.heap.size = w.heap.size + 2) := ⟨b1, hblk, hby, hE.below b1 (Nat.le_refl _), s1⟩
  obtain ⟨k0, k1, k2, k3, k4, k5, k6, k7, k8, k9, k10, k11, k12, k13, k14⟩ := boxAt_of hblk
  unfold headS at k0 k1 k2 k3 k4 k5 k6 k7 k8 k9 k10 k11 k12 k13 k14
  dsimp only [List.length_nil, List.length_cons] at k0 k1 k2 k3 k4 k5 k6 k7 k8 k9 k10 k11 k12 k13 k14
  clear hput hPl hPs hPo hPb hPg hP b1 bA hblk hby hsin hE s1
  go_enter Tryd.func11, Tryd.ntmps11
  go_wp2_with fail
  refine HPUT.out.mono ?_
  rintro e w2 ⟨va, vc, rfl, hR, hB2⟩
  obtain ⟨g, rfl, ho⟩ := hR.owns (by omega)
  have hcap : 33 ≤ vc := hR.cap
  have hbP : BytesAt w2 (some ⟨g, 0, none⟩) P := hR.bytes HP.out.2.2.2.1 (by rw [HP.out.1]; unfold maxLen; omega)
  have HGET : Hid (Calls Tryd.prog 17 #[.slice (some ⟨g, 0, none⟩) 33 vc, .int .u32 5, .int .u32 6] w2 fun e w' => (∃ ka kc da dc, e = .returned (.tuple #[.agg (segV headS ka kc da dc), .int .i64 0]) ∧ BlksAt w' ka headS.sk ∧ BytesAt w' da headS.da) ∧ Below w2.heap.size w2 w') := get_fine g 0 33 vc P 5 6 headS w2 hbP HP.out.1 hcap (by unfold U32; decide) (by unfold U32; decide) HP.out.2.2.2.2
  have H2 : Hid (Below W1.heap.size W1 w2 ∧ BytesAt w2 (some ⟨g, 0, none⟩) P) := ⟨hB2, hbP⟩
  clear hR hB2 ho hbP hA hW1 sA k0 k1 k2 k3 k4 k5 k6 k7 k8 k9 k10 k11 k12 k13 k14
  go_wp2_with fail
  refine HGET.out.mono ?_
  rintro e w3 ⟨⟨ka, kc, da, dc, rfl, hk, hd⟩, hB3⟩
  obtain ⟨W3, hW3⟩ : ∃ W3, w3.alloc (.cells #[.int .i64 1, .int .i64 2, .int .u32 3, .int .u32 0, .int .i64 16, .int .i64 0, .int .i64 0, .int .i64 (-1), .int .i64 (-1), .bool false, .bool true, .int .u32 7, .int .u32 0, .slice ka 0 kc, .slice da 1 dc] 26) = W3 := ⟨_, rfl⟩
  have hblk3 : W3.heap[w3.heap.size]? = some (.cells (segV headS ka kc da dc) 26) := by rw [← hW3]; exact World.alloc_heap_new w3 _
  have b3 : Below w3.heap.size w3 W3 := by rw [← hW3]; exact (Below.refl _ w3).alloc (Nat.le_refl _) _
  have b13 : Below W1.heap.size W1 W3 := (H2.out.1.trans (hB3.mono H2.out.1.size)).trans (b3.mono (by have := H2.out.1.size; have := hB3.size; omega))
  have hbP3 : BytesAt W3 (some ⟨g, 0, none⟩) P := (H2.out.2.below hB3 (Nat.le_refl _)).below b3 (Nat.le_refl _)
  have HSUM : Hid (Calls Tryd.prog 17 #[.slice (some ⟨g, 0, none⟩) 33 vc, .int .u32 5, .int .u32 7] W3 fun e w' => e = .returned (.tuple #[.agg (segV zeroS none 0 none 0), .int .i64 32]) ∧ Below W3.heap.size W3 w') := get_sum g 0 33 vc P 5 7 W3 a0 a1 a2 (H1.out.2.2.2.1.below b13 (Nat.le_refl _)) hbP3 HP.out.1 (by omega) (by rw [HP.out.2.2.1]; omega) (by rw [HP.out.2.2.1]; omega) (by unfold U32; decide) (by unfold U32; decide) HP.out.2.1
  have H3 : Hid (Below W1.heap.size W1 W3 ∧ W3.heap[w3.heap.size]? = some (.cells (segV headS ka kc da dc) 26) ∧ BlksAt W3 ka headS.sk ∧ BytesAt W3 da headS.da) := ⟨b13, hblk3, hk.below b3 (Nat.le_refl _), hd.below b3 (Nat.le_refl _)⟩
  clear hk hd hB3 hblk3 b3 b13 hbP3 HGET HPUT
  unfold segV headS
  dsimp only [List.length_nil, List.length_cons]
  go_wp2_with fail
  refine HSUM.out.mono ?_
  rintro e w4 ⟨rfl, hB4⟩
  clear HSUM hW3
  unfold segV zeroS
  dsimp only [List.length_nil]
  go_upto_region 7 with fail
  obtain ⟨W4, hW4⟩ : ∃ W4, w4.alloc (.cells #[.int .i64 0, .int .i64 0, .int .u32 0, .int .u32 0, .int .i64 0, .int .i64 0, .int .i64 0, .int .i64 0, .int .i64 0, .bool false, .bool false, .int .u32 0, .int .u32 0, .slice none 0 0, .slice none 0 0] 26) = W4 := ⟨_, rfl⟩
  rw [hW4]
  have b4 : Below W3.heap.size W3 W4 := by rw [← hW4]; exact hB4.alloc hB4.size _
  have H4 : Hid (Below W3.heap.size W3 W4) := b4
  have HSH : Hid (∀ a c, Calls Tryd.prog 17 #[.slice a 19 c, .int .u32 5, .int .u32 6] W4 fun e w' => e = .returned (.tuple #[.agg (segV zeroS none 0 none 0), .int .i64 30]) ∧ Below W4.heap.size W4 w') := fun a c => get_short a 19 c 5 6 W4 a0 a1 a2 ((H1.out.2.2.2.1.below H3.out.1 (Nat.le_refl _)).below b4 (Nat.le_refl _)) (by omega)
  clear hB4 b4 hW4
  go_wp2_with fail
  refine (HSH.out _ _).mono ?_
  rintro e w5 ⟨rfl, hB5⟩
  clear HSH
  unfold segV zeroS
  dsimp only [List.length_nil]
  go_upto_region 8 with fail
  obtain ⟨W5, hW5⟩ : ∃ W5, w5.alloc (.cells #[.int .i64 0, .int .i64 0, .int .u32 0, .int .u32 0, .int .i64 0, .int .i64 0, .int .i64 0, .int .i64 0, .int .i64 0, .bool false, .bool false, .int .u32 0, .int .u32 0, .slice none 0 0, .slice none 0 0] 26) = W5 := ⟨_, rfl⟩
  rw [hW5]
  have b5 : Below W4.heap.size W4 W5 := by rw [← hW5]; exact hB5.alloc hB5.size _
  have b35 : Below W3.heap.size W3 W5 := H4.out.trans (b5.mono H4.out.size)
  have b15 : Below W1.heap.size W1 W5 := H3.out.1.trans (b35.mono H3.out.1.size)
  have hx1 : W5.heap[w.heap.size + 1]? = some (.cells (segV headS none 0 (some ⟨w.heap.size, 0, none⟩) 1) 26) := block_keep H1.out.2.1 b15 (Nat.le_refl _)
  have hx3 : W5.heap[w3.heap.size]? = some (.cells (segV headS ka kc da dc) 26) := block_keep H3.out.2.1 b35 (Nat.le_refl _)
  obtain ⟨c0, c1, c2, c3, c4, c5, c6, c7, c8, c9, c10, c11, c12, c13, c14⟩ := boxAt_of hx1
  obtain ⟨d0, d1, d2, d3, d4, d5, d6, d7, d8, d9, d10, d11, d12, d13, d14⟩ := boxAt_of hx3
  have HSA : Hid (Calls Tryd.prog 19 #[.agg (segV headS ka kc da dc), .agg (segV headS none 0 (some ⟨w.heap.size, 0, none⟩) 1)] W5 fun e w' => e = .returned (.bool true) ∧ Below W5.heap.size W5 w') := segSame headS ka kc da dc none 0 (some ⟨w.heap.size, 0, none⟩) 1 W5 (H3.out.2.2.1.below b35 (Nat.le_refl _)) (blks_none _) (H3.out.2.2.2.below b35 (Nat.le_refl _)) (H1.out.2.2.1.below b15 (Nat.le_refl _)) (by decide)
  have H5 : Hid (Below w.heap.size w W5) := H1.out.1.trans (b15.mono H1.out.1.size)
  unfold headS at c0 c1 c2 c3 c4 c5 c6 c7 c8 c9 c10 c11 c12 c13 c14 d0 d1 d2 d3 d4 d5 d6 d7 d8 d9 d10 d11 d12 d13 d14
  dsimp only [List.length_nil, List.length_cons] at c0 c1 c2 c3 c4 c5 c6 c7 c8 c9 c10 c11 c12 c13 c14 d0 d1 d2 d3 d4 d5 d6 d7 d8 d9 d10 d11 d12 d13 d14
  clear hB5 b5 b35 b15 hx1 hx3 hW5
  go_wp2_with fail
  refine HSA.out.mono ?_
  rintro e w6 ⟨rfl, hB6⟩
  go_wp2_with fail
  go_ret
  exact ⟨rfl, H5.out.trans (hB6.mono H5.out.size)⟩
end Go.Proofs.YtllmeeebjjmanaaDoor
