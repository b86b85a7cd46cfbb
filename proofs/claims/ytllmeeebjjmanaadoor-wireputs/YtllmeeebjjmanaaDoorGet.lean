/- The contract of wire.Get: of too few bytes, of a wrong sum. -/
import Derived.Test.YtllmeeebjjmanaaDoorRead
namespace Go.Proofs.YtllmeeebjjmanaaDoor
open Go.ChangeShapes Go.WideShapes Go.ChangeAt Go.RowKit Go.Shelf
set_option linter.unusedVariables false

set_option maxRecDepth 100000 in
theorem get1_up (pb ps pd q n c : Nat) (a : Option Addr) (src dst why : Int) (W : World) (hpb : W.cell? ⟨pb, 0, none⟩ = some (.slice a n c)) (hps : W.cell? ⟨ps, 0, none⟩ = some (.int .u32 src)) (hpd : W.cell? ⟨pd, 0, none⟩ = some (.int .u32 dst))
    (hr : Calls Tryd.prog 34 #[.slice a n c, .int .u32 src, .int .u32 dst] W fun e w' => e = .panicked (upC why) ∧ Below W.heap.size W w') :
    Calls Tryd.prog 33 #[.pointer (some ⟨pb, 0, none⟩), .pointer (some ⟨ps, 0, none⟩), .pointer (some ⟨pd, 0, none⟩), .pointer (some ⟨q, 0, none⟩)] W fun e w' => e = .panicked (upC why) ∧ Below W.heap.size W w' := by
  have HR : Hid (Calls Tryd.prog 34 #[.slice a n c, .int .u32 src, .int .u32 dst] W fun e w' => e = .panicked (upC why) ∧ Below W.heap.size W w') := hr
  clear hr
  go_enter Tryd.func33, Tryd.ntmps33
  go_wp2_with fail
  refine HR.out.mono ?_
  rintro e w1 ⟨rfl, hB⟩
  exact ⟨rfl, rfl, hB⟩

/-- The variables that Get makes ahead of the reading. -/
structure Made (w A5 W1 : World) (a : Option Addr) (n c : Nat) (src dst : Int) : Prop where
  s5 : A5.heap.size = w.heap.size + 5
  s6 : W1.heap.size = w.heap.size + 6
  b5 : Below w.heap.size w A5
  b6 : Below A5.heap.size A5 W1
  cb : W1.cell? ⟨w.heap.size, 0, none⟩ = some (.slice a n c)
  cs : W1.cell? ⟨w.heap.size + 1, 0, none⟩ = some (.int .u32 src)
  cd : W1.cell? ⟨w.heap.size + 2, 0, none⟩ = some (.int .u32 dst)
  z3 : W1.heap[w.heap.size + 3]? = some (.cells (segV zeroS none 0 none 0) 26)
  z4 : W1.heap[w.heap.size + 4]? = some (.cells (segV zeroS none 0 none 0) 26)
  ce : W1.cell? ⟨w.heap.size + 5, 0, none⟩ = some .nilIface
  fe : W1.frozen? ⟨w.heap.size + 5, 0, none⟩ = false

theorem heap_push (w : World) (o : Obj) (k : Nat) (h : k = w.heap.size) : (w.alloc o).heap[k]? = some o := by
  subst h; exact World.alloc_heap_new w o
theorem heap_old (w : World) (o o' : Obj) (k : Nat) (h : w.heap[k]? = some o) : (w.alloc o').heap[k]? = some o := by
  rw [Below.heap_alloc _ _ _ (Array.getElem?_eq_some_iff.1 h).1]; exact h

theorem made (w : World) (a : Option Addr) (n c : Nat) (src dst : Int) (A1 A2 A3 A4 A5 W1 : World) (h1 : w.alloc (.cells #[.slice a n c] 24) = A1) (h2 : A1.alloc (.cells #[.int .u32 src] 22) = A2) (h3 : A2.alloc (.cells #[.int .u32 dst] 22) = A3) (h4 : A3.alloc (.cells (segV zeroS none 0 none 0) 26) = A4) (h5 : A4.alloc (.cells (segV zeroS none 0 none 0) 26) = A5) (h6 : A5.alloc (.cells #[.nilIface] 58) = W1) : Made w A5 W1 a n c src dst := by
  have s1 : A1.heap.size = w.heap.size + 1 := by rw [← h1]; simp
  have s2 : A2.heap.size = w.heap.size + 2 := by rw [← h2]; simp [s1]
  have s3 : A3.heap.size = w.heap.size + 3 := by rw [← h3]; simp [s2]
  have s4 : A4.heap.size = w.heap.size + 4 := by rw [← h4]; simp [s3]
  have s5 : A5.heap.size = w.heap.size + 5 := by rw [← h5]; simp [s4]
  have s6 : W1.heap.size = w.heap.size + 6 := by rw [← h6]; simp [s5]
  have b1 : Below w.heap.size w A1 := by rw [← h1]; exact (Below.refl _ w).alloc (Nat.le_refl _) _
  have b2 : Below w.heap.size w A2 := by rw [← h2]; exact b1.alloc (by omega) _
  have b3 : Below w.heap.size w A3 := by rw [← h3]; exact b2.alloc (by omega) _
  have b4 : Below w.heap.size w A4 := by rw [← h4]; exact b3.alloc (by omega) _
  have b5 : Below w.heap.size w A5 := by rw [← h5]; exact b4.alloc (by omega) _
  have b6 : Below A5.heap.size A5 W1 := by rw [← h6]; exact (Below.refl _ A5).alloc (Nat.le_refl _) _
  have k0 : W1.heap[w.heap.size]? = some (.cells #[.slice a n c] 24) := by
    rw [← h6, ← h5, ← h4, ← h3, ← h2, ← h1]
    exact heap_old _ _ _ _ (heap_old _ _ _ _ (heap_old _ _ _ _ (heap_old _ _ _ _ (heap_old _ _ _ _ (heap_push _ _ _ rfl)))))
  have k1 : W1.heap[w.heap.size + 1]? = some (.cells #[.int .u32 src] 22) := by
    rw [← h6, ← h5, ← h4, ← h3, ← h2]
    exact heap_old _ _ _ _ (heap_old _ _ _ _ (heap_old _ _ _ _ (heap_old _ _ _ _ (heap_push _ _ _ s1.symm))))
  have k2 : W1.heap[w.heap.size + 2]? = some (.cells #[.int .u32 dst] 22) := by
    rw [← h6, ← h5, ← h4, ← h3]
    exact heap_old _ _ _ _ (heap_old _ _ _ _ (heap_old _ _ _ _ (heap_push _ _ _ s2.symm)))
  have k3 : W1.heap[w.heap.size + 3]? = some (.cells (segV zeroS none 0 none 0) 26) := by
    rw [← h6, ← h5, ← h4]
    exact heap_old _ _ _ _ (heap_old _ _ _ _ (heap_push _ _ _ s3.symm))
  have k4 : W1.heap[w.heap.size + 4]? = some (.cells (segV zeroS none 0 none 0) 26) := by
    rw [← h6, ← h5]
    exact heap_old _ _ _ _ (heap_push _ _ _ s4.symm)
  have k5 : W1.heap[w.heap.size + 5]? = some (.cells #[.nilIface] 58) := by
    rw [← h6]
    exact heap_push _ _ _ s5.symm
  exact ⟨s5, s6, b5, b6, box_cells k0 0, box_cells k1 0, box_cells k2 0, k3, k4, box_cells k5 0, seg_frozen k5 0⟩

theorem seg_drew {w : World} {p : Nat} {s : Seg} {ka : Option Addr} {kc : Nat} {da : Option Addr} {dc : Nat} (h : SegCells w p s ka kc da dc) : SegCells w.drew p s ka kc da dc := h
theorem But.drew (p : Nat) (w : World) : But p w w.drew := ⟨rfl, rfl, rfl, Nat.le_refl _, fun _ _ _ => rfl⟩

set_option maxRecDepth 100000 in
set_option maxHeartbeats 4000000 in
theorem get_up (a : Option Addr) (n c : Nat) (src dst why : Int) (w : World) (a0 a1 a2 : Addr) (hE : Errs w a0 a1 a2) (hw : WhyOk why)
    (hr : ∀ W, Below w.heap.size w W → Calls Tryd.prog 34 #[.slice a n c, .int .u32 src, .int .u32 dst] W fun e w' => e = .panicked (upC why) ∧ Below W.heap.size W w') :
    Calls Tryd.prog 17 #[.slice a n c, .int .u32 src, .int .u32 dst] w fun e w' => e = .returned (.tuple #[.agg (segV zeroS none 0 none 0), .int .i64 (numI why)]) ∧ Below w.heap.size w w' := by
  obtain ⟨A1, h1⟩ : ∃ A1, w.alloc (.cells #[.slice a n c] 24) = A1 := ⟨_, rfl⟩
  obtain ⟨A2, h2⟩ : ∃ A2, A1.alloc (.cells #[.int .u32 src] 22) = A2 := ⟨_, rfl⟩
  obtain ⟨A3, h3⟩ : ∃ A3, A2.alloc (.cells #[.int .u32 dst] 22) = A3 := ⟨_, rfl⟩
  obtain ⟨A4, h4⟩ : ∃ A4, A3.alloc (.cells (segV zeroS none 0 none 0) 26) = A4 := ⟨_, rfl⟩
  obtain ⟨A5, h5⟩ : ∃ A5, A4.alloc (.cells (segV zeroS none 0 none 0) 26) = A5 := ⟨_, rfl⟩
  obtain ⟨W1, h6⟩ : ∃ W1, A5.alloc (.cells #[.nilIface] 58) = W1 := ⟨_, rfl⟩
  have M := made w a n c src dst A1 A2 A3 A4 A5 W1 h1 h2 h3 h4 h5 h6
  have s1 : A1.heap.size = w.heap.size + 1 := by rw [← h1]; simp
  have s2 : A2.heap.size = w.heap.size + 2 := by rw [← h2]; simp [s1]
  have s3 : A3.heap.size = w.heap.size + 3 := by rw [← h3]; simp [s2]
  have s4 : A4.heap.size = w.heap.size + 4 := by rw [← h4]; simp [s3]
  have bW : Below w.heap.size w W1 := M.b5.trans (M.b6.mono (by have := M.s5; omega))
  have hg := get1_up w.heap.size (w.heap.size + 1) (w.heap.size + 2) (w.heap.size + 4) n c a src dst why W1 M.cb M.cs M.cd (hr W1 bW)
  have hcau := caught_up 33 #[.pointer (some ⟨w.heap.size, 0, none⟩), .pointer (some ⟨w.heap.size + 1, 0, none⟩), .pointer (some ⟨w.heap.size + 2, 0, none⟩), .pointer (some ⟨w.heap.size + 4, 0, none⟩)] (enter33 _) A5
    (fun y w' => why = y ∧ Below W1.heap.size W1 w') (by
      rw [h6, M.s5]
      refine hg.mono ?_
      rintro e w' ⟨rfl, hbt⟩
      refine ⟨why, rfl, ⟨(hbt.cell (p := ⟨w.heap.size + 5, 0, none⟩) (by show w.heap.size + 5 < _; have := M.s6; omega)).trans M.ce, ?_⟩, rfl, hbt⟩
      exact (hbt.frozen (p := ⟨w.heap.size + 5, 0, none⟩) (by show w.heap.size + 5 < _; have := M.s6; omega)).trans M.fe)
  rw [M.s5] at hcau
  have HC : Hid (Calls Tryd.prog 29 #[.func (.func 33) #[] #[.pointer (some ⟨w.heap.size, 0, none⟩), .pointer (some ⟨w.heap.size + 1, 0, none⟩), .pointer (some ⟨w.heap.size + 2, 0, none⟩), .pointer (some ⟨w.heap.size + 4, 0, none⟩)]] A5 fun e w' => ∃ y : Int, e = .returned (.iface 92 (.agg #[.int .i64 y])) ∧ ∃ W', (why = y ∧ Below W1.heap.size W1 W') ∧ w' = W'.setCell ⟨w.heap.size + 5, 0, none⟩ (.iface 92 (.agg #[.int .i64 y]))) := hcau
  have HM : Hid (Made w A5 W1 a n c src dst ∧ Below w.heap.size w W1) := ⟨M, bW⟩
  have HE : Hid (Errs w a0 a1 a2 ∧ WhyOk why) := ⟨hE, hw⟩
  obtain ⟨num, hnum⟩ : ∃ num, numI why = num := ⟨_, rfl⟩
  have HNUM : Hid (numI why = num) := hnum
  rw [hnum]
  obtain ⟨Z, hZ⟩ : ∃ Z, zeroS = Z := ⟨_, rfl⟩
  have HZ : Hid (zeroS = Z) := hZ
  rw [hZ]
  clear hcau hg M bW hE hw h6 hnum hr hZ
  unfold segV zeroS at h4 h5
  dsimp only [List.length_nil] at h4 h5
  go_enter Tryd.func17, Tryd.ntmps17
  go_wp2_with fail
  refine HC.out.mono ?_
  rintro e w6 ⟨_, rfl, W', ⟨rfl, hbt⟩, rfl⟩
  clear h1 h2 h3 h4 h5 s1 s2 s3 s4
  obtain ⟨w6, hw6⟩ : ∃ w6, W'.setCell ⟨w.heap.size + 5, 0, none⟩ (.iface 92 (.agg #[.int .i64 why])) = w6 := ⟨_, rfl⟩
  have hb6 : But (w.heap.size + 5) W' w6 := by rw [← hw6]; exact But.setCell _ _ _ _
  obtain ⟨M, bW⟩ := HM.out
  have hM6 := M.s6
  have hWs := hbt.size
  have hW6s := hb6.size
  have hz4 : w6.heap[w.heap.size + 4]? = some (.cells (segV zeroS none 0 none 0) 26) := by
    rw [hb6.block _ (by omega) (by omega), hbt.block _ (by omega)]
    exact M.z4
  have hz6 : w6.heap[w.heap.size + 3]? = some (.cells (segV zeroS none 0 none 0) 26) := by
    rw [hb6.block _ (by omega) (by omega), hbt.block _ (by omega)]
    exact M.z3
  have e2 : Below w.heap.size w w6 := (bW.trans (hbt.mono (by omega))).trans (hb6.below (by omega) (by omega))
  rw [HZ.out] at hz4
  obtain ⟨c0, c1, c2, c3, c4, c5, c6, c7, c8, c9, c10, c11, c12, c13, c14⟩ := boxAt_of hz4
  have hc3 : ∀ k, w6.cell? ⟨w.heap.size + 3, k, none⟩ = (segV zeroS none 0 none 0)[k]? := fun k => box_cells hz6 k
  have hf3 : ∀ k, w6.frozen? ⟨w.heap.size + 3, k, none⟩ = false := fun k => seg_frozen hz6 k
  have NUM : Hid (∀ W, Below w6.heap.size w6 W → Calls Tryd.prog 28 #[.iface 92 (.agg #[.int .i64 why])] W fun e w' => e = .returned (.int .i64 num) ∧ Below w6.heap.size w6 w' ∧ w'.heap[w.heap.size + 4]? = some (.cells (segV Z none 0 none 0) 26) ∧ w'.heap[w.heap.size + 3]? = some (.cells (segV zeroS none 0 none 0) 26)) := fun W hW => by
    have := number_any why W a0 a1 a2 ((HE.out.1.below e2 (Nat.le_refl _)).below hW (Nat.le_refl _)) HE.out.2
    rw [HNUM.out] at this
    refine this.mono ?_
    rintro e w' ⟨rfl, hb⟩
    have hx : Below w6.heap.size w6 w' := hW.trans (hb.mono hW.size)
    exact ⟨rfl, hx, (hx.block _ (by omega)).trans hz4, (hx.block _ (by omega)).trans hz6⟩
  unfold segV zeroS at hc3
  dsimp only [List.length_nil] at hc3
  have HB6 : Hid (Below w.heap.size w w6 ∧ w.heap.size + 6 ≤ w6.heap.size) := ⟨e2, by omega⟩
  rw [hw6]
  clear hbt hb6 hz4 hz6 M bW hWs hw6 e2 hM6 hW6s
  go_wp2_with fail
  go_region_with (first | (go_at_call 28; refine (NUM.out _ (by repeat (first | with_reducible exact Below.refl _ _ | with_reducible assumption | with_reducible refine Below.drew ?_ | with_reducible refine below_drewN ?_ _))).mono ?_; rintro e wn ⟨rfl, hBn, hn4, hn3⟩; obtain ⟨d0, d1, d2, d3, d4, d5, d6, d7, d8, d9, d10, d11, d12, d13, d14⟩ := boxAt_of hn4; have g3 : ∀ k, wn.cell? ⟨w.heap.size + 3, k, none⟩ = (segV zeroS none 0 none 0)[k]? := fun k => box_cells hn3 k; have gf : ∀ k, wn.frozen? ⟨w.heap.size + 3, k, none⟩ = false := fun k => seg_frozen hn3 k; unfold segV zeroS at g3; dsimp only [List.length_nil] at g3; have HN : Hid (Below w6.heap.size w6 wn ∧ wn.heap[w.heap.size + 3]? = some (.cells (segV zeroS none 0 none 0) 26)) := ⟨hBn, hn3⟩; clear hBn hn4 hn3))
  all_goals go_wp2_with fail
  all_goals (
    obtain ⟨hBn, hn3⟩ := HN.out
    obtain ⟨e2, hs6⟩ := HB6.out
    have hsn := hBn.size
    have hSf : SegCells (setAll wn (w.heap.size + 3) (segL Z none 0 none 0)) (w.heap.size + 3) Z none 0 none 0 := setAll_seg hn3 Z none 0 none 0
    have hbf : But (w.heap.size + 3) wn (setAll wn (w.heap.size + 3) (segL Z none 0 none 0)) := setAll_but (segL Z none 0 none 0) wn (w.heap.size + 3)
    obtain ⟨Wf, hWf⟩ : ∃ Wf, (setAll wn (w.heap.size + 3) (segL Z none 0 none 0)) = Wf := ⟨_, rfl⟩
    rw [hWf] at hSf hbf
    obtain ⟨f0, f1, f2, f3, f4, f5, f6, f7, f8, f9, f10, f11, f12, f13, f14⟩ := boxAt_of hSf
    show bodyPost Tryd.prog Tryd.f17 _ Exit.ret _ (setAll wn (w.heap.size + 3) (segL Z none 0 none 0))
    rw [hWf]
    refine ⟨rfl, .tuple #[.agg (segV Z none 0 none 0), .int .i64 num], ?_, rfl, ?_⟩
    · simp [results, Tryd.results17, go_sem, f0, f1, f2, f3, f4, f5, f6, f7, f8, f9, f10, f11, f12, f13, f14, segV]
    · exact (e2.trans (hBn.mono e2.size)).trans (hbf.below (by omega) (by omega)))

theorem get_short (a : Option Addr) (n c : Nat) (src dst : Int) (w : World) (a0 a1 a2 : Addr) (hE : Errs w a0 a1 a2) (hn : n < 20) :
    Calls Tryd.prog 17 #[.slice a n c, .int .u32 src, .int .u32 dst] w fun e w' => e = .returned (.tuple #[.agg (segV zeroS none 0 none 0), .int .i64 30]) ∧ Below w.heap.size w w' :=
  get_up a n c src dst 8 w a0 a1 a2 hE (.inr (.inl rfl)) fun W _ => read_short a n c src dst W hn

theorem get_sum (b o n c : Nat) (bs : List Int) (src dst : Int) (w : World) (a0 a1 a2 : Addr) (hE : Errs w a0 a1 a2) (hb : BytesAt w (some ⟨b, o, none⟩) bs) (hn : bs.length = n) (h20 : 20 ≤ n) (ho1 : 20 ≤ offI bs) (ho2 : offI bs ≤ n) (hs : U32 src) (hd : U32 dst) (hsum : (sumI (pseudoI src dst n ++ bs) == 0) = false) :
    Calls Tryd.prog 17 #[.slice (some ⟨b, o, none⟩) n c, .int .u32 src, .int .u32 dst] w fun e w' => e = .returned (.tuple #[.agg (segV zeroS none 0 none 0), .int .i64 32]) ∧ Below w.heap.size w w' :=
  get_up _ n c src dst 11 w a0 a1 a2 hE (.inr (.inr (.inr rfl))) fun W hW => read_sum b o n c bs src dst W (hb.below hW (Nat.le_refl _)) hn h20 ho1 ho2 hs hd hsum
end Go.Proofs.YtllmeeebjjmanaaDoor
