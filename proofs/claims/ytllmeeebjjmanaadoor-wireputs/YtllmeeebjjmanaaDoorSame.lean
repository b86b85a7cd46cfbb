/- The contract of the document's Same: two segments that hold the same. -/
import Derived.Test.YtllmeeebjjmanaaDoorPut
import Derived.Laws.StructEq
namespace Go.Proofs.YtllmeeebjjmanaaDoor
open Go.ChangeShapes Go.WideShapes Go.ChangeAt Go.RowKit Go.Shelf
set_option linter.unusedVariables false

theorem conv0 (a : Option Addr) (c : Nat) (w : World) : (convert 24 9 (.slice a 0 c)).run Tryd.prog w = .ok (.string ByteArray.empty) w := by
  cases a <;> kernel_rfl

theorem same_bytes (a b : Option Addr) (c d : Nat) (xs : List Int) (w : World) (ha : BytesAt w a xs) (hb : BytesAt w b xs) :
    Calls Tryd.prog 12 #[.slice a xs.length c, .slice b xs.length d] w fun e w' => e = .returned (.bool true) ∧ w' = w := by
  by_cases h0 : 0 < xs.length
  · exact same_any a b c d xs w ha hb h0
  · obtain rfl : xs = [] := List.eq_nil_of_length_eq_zero (by omega)
    have k := conv0
    simp only [List.length_nil]
    clear ha hb h0
    go_enter Tryd.func12, Tryd.ntmps12
    go_wp2
    go_ret
    exact ⟨ret_bool (by simp), rfl⟩

theorem ne63 (f t : Int) (w : World) : (binOp .neq 63 (.agg #[.int .u32 f, .int .u32 t]) (.agg #[.int .u32 f, .int .u32 t])).run Tryd.prog w = .ok (.bool false) w := by
  have hu : Tryd.prog.underlying 63 = some (.struct (Tryd.prog.fieldsOf 63)) := by kernel_rfl
  have hs : Tryd.prog.stoodInHeld 63 = false := by kernel_rfl
  have h := run_equalIn_struct (P := Tryd.prog) w 9999 63 #[.int .u32 f, .int .u32 t] #[.int .u32 f, .int .u32 t] hu hs
  simp only [binOp]
  simp [Op.equal, Op.maxDepth, h, Op.eqFields, go_sem]

set_option maxRecDepth 100000 in
set_option maxHeartbeats 4000000 in
theorem segSame (s : Seg) (ka : Option Addr) (kc : Nat) (da : Option Addr) (dc : Nat) (la : Option Addr) (lc : Nat) (ea : Option Addr) (ec : Nat) (w : World) (hk : BlksAt w ka s.sk) (hl : BlksAt w la s.sk) (hd : BytesAt w da s.da) (he : BytesAt w ea s.da) (hn : s.sk.length ≤ 1000) :
    Calls Tryd.prog 19 #[.agg (segV s ka kc da dc), .agg (segV s la lc ea ec)] w fun e w' => e = .returned (.bool true) ∧ Below w.heap.size w w' := by
  obtain ⟨W0, hW0⟩ : ∃ W0, w.alloc (.cells (segV s ka kc da dc) 26) = W0 := ⟨_, rfl⟩
  obtain ⟨W1, hW1⟩ : ∃ W1, W0.alloc (.cells (segV s la lc ea ec) 26) = W1 := ⟨_, rfl⟩
  have s0 : W0.heap.size = w.heap.size + 1 := by rw [← hW0]; simp
  have b0 : Below w.heap.size w W0 := by rw [← hW0]; exact (Below.refl _ w).alloc (Nat.le_refl _) _
  have b1 : Below W0.heap.size W0 W1 := by rw [← hW1]; exact (Below.refl _ W0).alloc (Nat.le_refl _) _
  have b2 : Below w.heap.size w W1 := b0.trans (b1.mono (by omega))
  have hblk : W1.heap[w.heap.size]? = some (.cells (segV s ka kc da dc) 26) := by
    rw [b1.block _ (by omega), ← hW0]; exact World.alloc_heap_new w _
  have hblk' : W1.heap[w.heap.size + 1]? = some (.cells (segV s la lc ea ec) 26) := by
    rw [← s0, ← hW1]; exact World.alloc_heap_new W0 _
  obtain ⟨n, hnn⟩ : ∃ n, s.sk.length = n := ⟨_, rfl⟩
  obtain ⟨c0, c1, c2, c3, c4, c5, c6, c7, c8, c9, c10, c11, c12, c13, c14⟩ := boxAt_of hblk
  obtain ⟨d0, d1, d2, d3, d4, d5, d6, d7, d8, d9, d10, d11, d12, d13, d14⟩ := boxAt_of hblk'
  have HK : Hid (BlksAt W1 ka s.sk ∧ BlksAt W1 la s.sk ∧ BytesAt W1 da s.da ∧ BytesAt W1 ea s.da) := ⟨hk.below b2 (Nat.le_refl _), hl.below b2 (Nat.le_refl _), hd.below b2 (Nat.le_refl _), he.below b2 (Nat.le_refl _)⟩
  have HN : Hid (s.sk.length = n) := hnn
  have HB : Hid (Below w.heap.size w W1) := b2
  rw [hnn] at c13 d13 hn
  clear hk hl hd he b0 b1 b2 hblk hblk'
  unfold segV at *
  rw [hnn] at hW0 hW1 ⊢
  clear hnn
  have hne := ne63
  go_enter Tryd.func19, Tryd.ntmps19
  go_wp2_with fail
  clear hW0 hW1 c0 c1 c2 c3 c4 c5 c6 c7 c8 c9 c10 c11 c12 d0 d1 d2 d3 d4 d5 d6 d7 d8 d9 d10 d11 d12
  go_loopw [5] (fun vi wr => ∃ (i k : Nat), vi = .int .i64 i ∧ i ≤ n ∧ wr = W1.drewN k)
    (fun vi _ => n - (intOf vi).toNat)
  case atStart => exact ⟨0, 0, rfl, Nat.zero_le _, rfl⟩
  case round =>
    obtain ⟨i, k, rfl, hin, rfl⟩ := hrel
    by_cases hlt : i < n
    · have hi' : i < s.sk.length := by have := HN.out; omega
      obtain ⟨kb, ko, rfl, hc0, hc1⟩ := HK.out.1.2.2 i hi'
      obtain ⟨lb, lo, rfl, hd0, hd1⟩ := HK.out.2.1.2.2 i hi'
      obtain ⟨f, hf⟩ : ∃ f, (s.sk[i]?.getD (0, 0)).1 = f := ⟨_, rfl⟩
      obtain ⟨t, ht⟩ : ∃ t, (s.sk[i]?.getD (0, 0)).2 = t := ⟨_, rfl⟩
      rw [hf] at hc0 hd0
      rw [ht] at hc1 hd1
      have hlt' : (i : Int) < (n : Int) := by omega
      clear hf ht hi'
      go_upto_region 8 with fail
      go_quiet (fail)
      go_wp2_with fail
      go_roundw
      case rel => exact ⟨i + 1, _, by go_num, by omega, rfl⟩
      case measure => simp [intOf]; omega
    · obtain rfl : i = n := by omega
      go_wp2_with fail
      refine (same_bytes da ea dc ec s.da (W1.drewN k) HK.out.2.2.1 HK.out.2.2.2).mono ?_
      rintro e w' ⟨rfl, rfl⟩
      go_wp2_with fail
      go_ret
      exact ⟨rfl, ⟨HB.out.os, HB.out.tape, HB.out.output, HB.out.size, HB.out.block⟩⟩
end Go.Proofs.YtllmeeebjjmanaaDoor
