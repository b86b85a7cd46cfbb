/- The contract of wire.Get: of bytes that are a segment. -/
import Derived.Test.YtllmeeebjjmanaaDoorGet
import Derived.Test.YtllmeeebjjmanaaDoorReadOk
namespace Go.Proofs.YtllmeeebjjmanaaDoor
open Go.ChangeShapes Go.WideShapes Go.ChangeAt Go.RowKit Go.Shelf
set_option linter.unusedVariables false

set_option maxRecDepth 100000 in
set_option maxHeartbeats 1000000 in
theorem get1_ok (pb ps pd q b o n c : Nat) (bs : List Int) (src dst : Int) (S : Seg) (W : World) (hpb : W.cell? ⟨pb, 0, none⟩ = some (.slice (some ⟨b, o, none⟩) n c)) (hps : W.cell? ⟨ps, 0, none⟩ = some (.int .u32 src)) (hpd : W.cell? ⟨pd, 0, none⟩ = some (.int .u32 dst))
    (hq : W.heap[q]? = some (.cells (segV zeroS none 0 none 0) 26)) (hb : BytesAt W (some ⟨b, o, none⟩) bs) (hn : bs.length = n) (hc : n ≤ c) (hs : U32 src) (hd : U32 dst) (h : getI bs src dst = (0, S)) :
    Calls Tryd.prog 33 #[.pointer (some ⟨pb, 0, none⟩), .pointer (some ⟨ps, 0, none⟩), .pointer (some ⟨pd, 0, none⟩), .pointer (some ⟨q, 0, none⟩)] W fun e w' => e = .returned (.tuple #[]) ∧
      (∃ ka kc da dc, SegCells w' q S ka kc da dc ∧ BlksAt w' ka S.sk ∧ BytesAt w' da S.da ∧ (∀ x, ka = some x → W.heap.size < x.block) ∧ (∀ x, da = some x → W.heap.size < x.block)) ∧ But q W w' := by
  have hr := read_ok b o n c bs src dst S W hb hn hc hs hd h
  have HR : Hid (Calls Tryd.prog 34 #[.slice (some ⟨b, o, none⟩) n c, .int .u32 src, .int .u32 dst] W fun e w' => (∃ ka kc da dc, e = .returned (.agg (segV S ka kc da dc)) ∧ BlksAt w' ka S.sk ∧ BytesAt w' da S.da ∧ (da = none → dc = 0) ∧ (∀ x, ka = some x → W.heap.size < x.block) ∧ (∀ x, da = some x → W.heap.size < x.block)) ∧ Below W.heap.size W w') := hr
  have HQ : Hid (W.heap[q]? = some (.cells (segV zeroS none 0 none 0) 26)) := hq
  have hql : q < W.heap.size := (Array.getElem?_eq_some_iff.1 hq).1
  clear hr hb hn hc hs hd h hq
  go_enter Tryd.func33, Tryd.ntmps33
  go_wp2_with fail
  refine HR.out.mono ?_
  rintro e w1 ⟨⟨ka, kc, da, dc, rfl, hk, hda, _, hkf, hdf⟩, hB⟩
  have hq1 : w1.heap[q]? = some (.cells (segV zeroS none 0 none 0) 26) := block_keep HQ.out hB (Nat.le_refl _)
  have hqc : ∀ k, w1.cell? ⟨q, k, none⟩ = (segV zeroS none 0 none 0)[k]? := fun k => box_cells hq1 k
  have hqf : ∀ k, w1.frozen? ⟨q, k, none⟩ = false := fun k => seg_frozen hq1 k
  have HQ1 : Hid (w1.heap[q]? = some (.cells (segV zeroS none 0 none 0) 26)) := hq1
  have HF : Hid (BlksAt w1 ka S.sk ∧ BytesAt w1 da S.da ∧ (∀ x, ka = some x → W.heap.size < x.block) ∧ (∀ x, da = some x → W.heap.size < x.block)) := ⟨hk, hda, hkf, hdf⟩
  clear hq1 hk hda hkf hdf hpb hps hpd
  unfold segV zeroS at hqc
  unfold segV
  dsimp only [List.length_nil] at hqc
  go_wp2_with fail
  go_end0
  obtain ⟨hk, hda, hkf, hdf⟩ := HF.out
  have hbf := setAll_but (segL S ka kc da dc) w1 q
  exact ⟨rfl, ⟨ka, kc, da, dc, setAll_seg HQ1.out S ka kc da dc, hk.but hbf (fun x hx => by have := hkf x hx; omega), hda.but hbf (fun x hx => by have := hdf x hx; omega), hkf, hdf⟩, (But.of_below hB).trans hbf⟩

set_option maxRecDepth 100000 in
set_option maxHeartbeats 2000000 in
theorem get_fine (b o n c : Nat) (bs : List Int) (src dst : Int) (S : Seg) (w : World) (hb : BytesAt w (some ⟨b, o, none⟩) bs) (hn : bs.length = n) (hc : n ≤ c) (hs : U32 src) (hd : U32 dst) (h : getI bs src dst = (0, S)) :
    Calls Tryd.prog 17 #[.slice (some ⟨b, o, none⟩) n c, .int .u32 src, .int .u32 dst] w fun e w' => (∃ ka kc da dc, e = .returned (.tuple #[.agg (segV S ka kc da dc), .int .i64 0]) ∧ BlksAt w' ka S.sk ∧ BytesAt w' da S.da) ∧ Below w.heap.size w w' := by
  obtain ⟨A1, h1⟩ : ∃ A1, w.alloc (.cells #[.slice (some ⟨b, o, none⟩) n c] 24) = A1 := ⟨_, rfl⟩
  obtain ⟨A2, h2⟩ : ∃ A2, A1.alloc (.cells #[.int .u32 src] 22) = A2 := ⟨_, rfl⟩
  obtain ⟨A3, h3⟩ : ∃ A3, A2.alloc (.cells #[.int .u32 dst] 22) = A3 := ⟨_, rfl⟩
  obtain ⟨A4, h4⟩ : ∃ A4, A3.alloc (.cells (segV zeroS none 0 none 0) 26) = A4 := ⟨_, rfl⟩
  obtain ⟨A5, h5⟩ : ∃ A5, A4.alloc (.cells (segV zeroS none 0 none 0) 26) = A5 := ⟨_, rfl⟩
  obtain ⟨W1, h6⟩ : ∃ W1, A5.alloc (.cells #[.nilIface] 58) = W1 := ⟨_, rfl⟩
  have M := made w (some ⟨b, o, none⟩) n c src dst A1 A2 A3 A4 A5 W1 h1 h2 h3 h4 h5 h6
  have s1 : A1.heap.size = w.heap.size + 1 := by rw [← h1]; simp
  have s2 : A2.heap.size = w.heap.size + 2 := by rw [← h2]; simp [s1]
  have s3 : A3.heap.size = w.heap.size + 3 := by rw [← h3]; simp [s2]
  have s4 : A4.heap.size = w.heap.size + 4 := by rw [← h4]; simp [s3]
  have bW : Below w.heap.size w W1 := M.b5.trans (M.b6.mono (by have := M.s5; omega))
  have hg := get1_ok w.heap.size (w.heap.size + 1) (w.heap.size + 2) (w.heap.size + 4) b o n c bs src dst S W1 M.cb M.cs M.cd M.z4 (hb.below bW (Nat.le_refl _)) hn hc hs hd h
  have hcau := caught_ok 33 #[.pointer (some ⟨w.heap.size, 0, none⟩), .pointer (some ⟨w.heap.size + 1, 0, none⟩), .pointer (some ⟨w.heap.size + 2, 0, none⟩), .pointer (some ⟨w.heap.size + 4, 0, none⟩)] (enter33 _) A5
    (fun w' => (∃ ka kc da dc, SegCells w' (w.heap.size + 4) S ka kc da dc ∧ BlksAt w' ka S.sk ∧ BytesAt w' da S.da ∧ (∀ x, ka = some x → W1.heap.size < x.block) ∧ (∀ x, da = some x → W1.heap.size < x.block)) ∧ But (w.heap.size + 4) W1 w') (by
      rw [h6, M.s5]
      refine hg.mono ?_
      rintro e w' ⟨rfl, hq, hbt⟩
      refine ⟨rfl, ⟨hbt.cell M.ce (by show w.heap.size + 5 ≠ _; omega), ?_⟩, hq, hbt⟩
      rw [World.frozen?_of_block (w := W1) (hbt.block (w.heap.size + 5) (by have := M.s6; omega) (by omega))]
      exact M.fe)
  rw [M.s5] at hcau
  have HC : Hid (Calls Tryd.prog 29 #[.func (.func 33) #[] #[.pointer (some ⟨w.heap.size, 0, none⟩), .pointer (some ⟨w.heap.size + 1, 0, none⟩), .pointer (some ⟨w.heap.size + 2, 0, none⟩), .pointer (some ⟨w.heap.size + 4, 0, none⟩)]] A5 fun e w' => e = .returned .nilIface ∧ ∃ W', ((∃ ka kc da dc, SegCells W' (w.heap.size + 4) S ka kc da dc ∧ BlksAt W' ka S.sk ∧ BytesAt W' da S.da ∧ (∀ x, ka = some x → W1.heap.size < x.block) ∧ (∀ x, da = some x → W1.heap.size < x.block)) ∧ But (w.heap.size + 4) W1 W') ∧ w' = W'.setCell ⟨w.heap.size + 5, 0, none⟩ .nilIface) := hcau
  have HM : Hid (Made w A5 W1 (some ⟨b, o, none⟩) n c src dst ∧ Below w.heap.size w W1) := ⟨M, bW⟩
  clear hcau hg M bW hb hn hc hs hd h h6
  unfold segV zeroS at h4 h5
  dsimp only [List.length_nil] at h4 h5
  go_enter Tryd.func17, Tryd.ntmps17
  go_wp2_with fail
  refine HC.out.mono ?_
  rintro e w6 ⟨rfl, W', ⟨⟨ka, kc, da, dc, hS, hk, hda, hkf, hdf⟩, hbt⟩, rfl⟩
  clear h1 h2 h3 h4 h5 s1 s2 s3 s4
  obtain ⟨w6, hw6⟩ : ∃ w6, W'.setCell ⟨w.heap.size + 5, 0, none⟩ .nilIface = w6 := ⟨_, rfl⟩
  have hb6 : But (w.heap.size + 5) W' w6 := by rw [← hw6]; exact But.setCell _ _ _ _
  obtain ⟨M, bW⟩ := HM.out
  have hWs := hbt.size
  have hS6 : SegCells w6 (w.heap.size + 4) S ka kc da dc := by
    unfold SegCells
    rw [hb6.block _ (by have := M.s6; omega) (by omega)]
    exact hS
  have hz6 : w6.heap[w.heap.size + 3]? = some (.cells (segV zeroS none 0 none 0) 26) := by
    rw [hb6.block _ (by have := M.s6; omega) (by omega), hbt.block _ (by have := M.s6; omega) (by omega)]
    exact M.z3
  obtain ⟨c0, c1, c2, c3, c4, c5, c6, c7, c8, c9, c10, c11, c12, c13, c14⟩ := boxAt_of hS6
  have hc3 : ∀ k, w6.cell? ⟨w.heap.size + 3, k, none⟩ = (segV zeroS none 0 none 0)[k]? := fun k => box_cells hz6 k
  have hf3 : ∀ k, w6.frozen? ⟨w.heap.size + 3, k, none⟩ = false := fun k => seg_frozen hz6 k
  unfold segV zeroS at hc3
  dsimp only [List.length_nil] at hc3
  have HZ6 : Hid (w6.heap[w.heap.size + 3]? = some (.cells (segV zeroS none 0 none 0) 26)) := hz6
  have HALL : Hid (BlksAt W' ka S.sk ∧ BytesAt W' da S.da ∧ (∀ x, ka = some x → W1.heap.size < x.block) ∧ (∀ x, da = some x → W1.heap.size < x.block) ∧ But (w.heap.size + 4) W1 W' ∧ But (w.heap.size + 5) W' w6) := ⟨hk, hda, hkf, hdf, hbt, hb6⟩
  rw [hw6]
  clear hS hk hda hkf hdf hbt hb6 hS6 hz6 M bW hWs hw6
  go_wp2_with fail
  go_region_with (first | (go_at_call 28; refine (number_nil _).mono ?_; rintro e wn ⟨rfl, rfl⟩))
  all_goals go_wp2_with fail
  all_goals (
    obtain ⟨hk, hda, hkf, hdf, hbt, hb6⟩ := HALL.out
    obtain ⟨M, bW⟩ := HM.out
    have hW6 := M.s6
    have hs1 := hbt.size
    have hSf : SegCells (setAll w6 (w.heap.size + 3) (segL S ka kc da dc)).drew (w.heap.size + 3) S ka kc da dc := seg_drew (setAll_seg HZ6.out S ka kc da dc)
    have hbf : But (w.heap.size + 3) w6 (setAll w6 (w.heap.size + 3) (segL S ka kc da dc)).drew := (setAll_but (segL S ka kc da dc) w6 (w.heap.size + 3)).trans (But.drew _ _)
    obtain ⟨Wf, hWf⟩ : ∃ Wf, (setAll w6 (w.heap.size + 3) (segL S ka kc da dc)).drew = Wf := ⟨_, rfl⟩
    rw [hWf] at hSf hbf
    obtain ⟨f0, f1, f2, f3, f4, f5, f6, f7, f8, f9, f10, f11, f12, f13, f14⟩ := boxAt_of hSf
    show bodyPost Tryd.prog Tryd.f17 _ Exit.ret _ (setAll w6 (w.heap.size + 3) (segL S ka kc da dc)).drew
    rw [hWf]
    refine ⟨rfl, .tuple #[.agg (segV S ka kc da dc), .int .i64 0], ?_, ⟨ka, kc, da, dc, rfl, ?_, ?_⟩, ?_⟩
    · simp [results, Tryd.results17, go_sem, f0, f1, f2, f3, f4, f5, f6, f7, f8, f9, f10, f11, f12, f13, f14, segV]
    · exact (hk.but hb6 (fun x hx => by have := hkf x hx; omega)).but hbf (fun x hx => by have := hkf x hx; omega)
    · exact (hda.but hb6 (fun x hx => by have := hdf x hx; omega)).but hbf (fun x hx => by have := hdf x hx; omega)
    · have e1 : Below w.heap.size w W' := bW.trans (hbt.below (by omega) (by omega))
      have e2 : Below w.heap.size w w6 := e1.trans (hb6.below (by omega) (by omega))
      exact e2.trans (hbf.below (by omega) (by have := hb6.size; omega)))

end Go.Proofs.YtllmeeebjjmanaaDoor
