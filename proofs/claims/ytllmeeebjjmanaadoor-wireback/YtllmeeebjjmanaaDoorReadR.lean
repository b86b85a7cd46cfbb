/- The contract of wire.read: what stands behind the reading of the header. -/
import Derived.Test.YtllmeeebjjmanaaDoorRead
namespace Go.Proofs.YtllmeeebjjmanaaDoor
open Go.ChangeShapes Go.WideShapes Go.ChangeAt Go.RowKit Go.Shelf
set_option linter.unusedVariables false
attribute [local go_sem] alloc_drewN setCell_drewN

/-- The code behind a region. -/
def behind (n : Nat) : Code → Option Code
  | .seq a b => match a with
    | .region m _ _ => if m = n then some b else behind n b
    | _ => match behind n a with
      | some c => some c
      | none => behind n b
  | _ => none

set_option maxRecDepth 100000 in
set_option maxHeartbeats 40000000 in
theorem read_rest (b o n c off q dc : Nat) (bs tl : List Int) (src dst : Int) (S : Seg) (da : Option Addr) (w w2 wc : World) (u9 u10 u11 u12 u13 u14 u15 u16 u17 u18 u19 u20 u21 u22 u23 u24 u25 u26 u27 u28 u29 u30 u31 u32 u33 u34 u35 u36 u37 u38 u39 u40 u41 u42 u43 u44 u45 u46 u47 u48 u49 u50 u51 u52 u53 u54 u55 u56 u57 u58 u59 u60 u61 u62 u63 u64 u65 u66 u67 u68 u69 u70 u71 u72 : Value)
    (H : Hid (HeadAt w2 wc bs tl q da dc)) (HBY : Hid (∀ W, Below w2.heap.size w2 W → BytesAt W (some ⟨b, o, none⟩) bs)) (HB2 : Hid (BytesAt w2 (some ⟨b, o, none⟩) bs)) (HNN : Hid (bs.length = n))
    (HRD : Hid (rdI (segI bs) ((bs.take off).drop 20) = some S ∧ offI bs = off)) (HTL : Hid (bs.drop off = tl)) (HBLK2 : Hid (w2.heap[w.heap.size]? = some (.cells (segV zeroS none 0 none 0) 26))) (HBW : Hid (Below w.heap.size w w2))
    (hc : n ≤ c) (hof60 : off ≤ 60) (h20 : 20 ≤ n) (k2 : (20 : Int) ≤ (off : Int)) (k3 : (off : Int) ≤ (n : Int)) :
    Code.wp Tryd.prog ((Tryd.f34.body.bind (behind 7)).getD .skip) (bodyPost Tryd.prog Tryd.f34 (fun e w' => (∃ ka kc da dc, e = .returned (.agg (segV S ka kc da dc)) ∧ BlksAt w' ka S.sk ∧ BytesAt w' da S.da ∧ (da = none → dc = 0) ∧ (∀ x, ka = some x → w.heap.size < x.block) ∧ (∀ x, da = some x → w.heap.size < x.block)) ∧ Below w.heap.size w w')) ⟨#[.slice (some ⟨b, o, none⟩) n c, .int .u32 src, .int .u32 dst, undef, undef, undef, .pointer (some ⟨w.heap.size, 0, none⟩), .int .i64 off, .pointer (some ⟨q, 0, none⟩), u9, u10, u11, u12, u13, u14, u15, u16, u17, u18, u19, u20, u21, u22, u23, u24, u25, u26, u27, u28, u29, u30, u31, u32, u33, u34, u35, u36, u37, u38, u39, u40, u41, u42, u43, u44, u45, u46, u47, u48, u49, u50, u51, u52, u53, u54, u55, u56, u57, u58, u59, u60, u61, u62, u63, u64, u65, u66, u67, u68, u69, u70, u71, u72], []⟩ wc := by
  have hbq : b < w2.heap.size := by
    obtain ⟨_, _, e, hc0⟩ := HB2.out.2.2 0 (by have := HNN.out; omega)
    cases e
    exact lt_of_cell hc0
  have hsl := sl_lh (some ⟨b, o, none⟩) n c 20 off 20 (off : Int) rfl rfl (by omega) (by omega)
  obtain ⟨la, hla⟩ : ∃ x, cutA (some ⟨b, o, none⟩) c 20 = x := ⟨_, rfl⟩
  obtain ⟨ol, hol⟩ : ∃ x, off - 20 = x := ⟨_, rfl⟩
  obtain ⟨oc, hoc⟩ : ∃ x, c - 20 = x := ⟨_, rfl⟩
  obtain ⟨h1, h2, h3, h4, h5, h6⟩ := H.out
  have hbo : BytesAt wc la ((bs.take off).drop 20) := by
    rw [← hla, List.drop_take]
    exact bytes_cut (HBY.out wc h6) 20 (off - 20) (by have := HNN.out; omega) c (by have := HNN.out; omega)
  have hlq : ∀ x, la = some x → x.block ≠ q := by
    rw [← hla]
    exact cutA_block (fun x hx => by cases hx; show b ≠ q; omega)
  have hro := readOptions_any q (segI bs) S none 0 da dc la ol oc _ wc h1 (blks_none _) (fun x h => (by cases h)) hbo hlq (by rw [List.length_drop, List.length_take]; have := HNN.out; omega) (by omega) (by omega) HRD.out.1
  rw [hla, hol, hoc] at hsl
  have HRO : Hid (Calls Tryd.prog 47 #[.pointer (some ⟨q, 0, none⟩), .slice la ol oc] wc fun e w' => e = .returned (.tuple #[]) ∧ (∃ ka' kc', SegCells w' q S ka' kc' da dc ∧ BlksAt w' ka' S.sk ∧ ∀ x, ka' = some x → q < x.block) ∧ But q wc w') := hro
  clear hro hla hol hoc hbo hlq h1 h2 h3 h4 h5 h6
  conv => arg 2; whnf
  go_wp2_with fail
  refine HRO.out.mono ?_
  rintro e w3 ⟨rfl, ⟨ka, kc, hS3, hK3, hkq⟩, hbut3⟩
  obtain ⟨h1, h2, h3, h4, h5, h6⟩ := H.out
  obtain ⟨c0, c1, c2', c3, c4', c5, c6, c7, c8', c9, c10, c11, c12, c13, c14'⟩ := boxAt_of hS3
  have hwq : w.heap.size < w2.heap.size := (Array.getElem?_eq_some_iff.1 HBLK2.out).1
  have hpr : w3.heap[w.heap.size]? = some (.cells (segV zeroS none 0 none 0) 26) := by
    rw [hbut3.block w.heap.size (by have := h6.size; omega) (by omega), h6.block w.heap.size hwq]
    exact HBLK2.out
  have hqc : ∀ k, w3.cell? ⟨w.heap.size, k, none⟩ = (segV zeroS none 0 none 0)[k]? := fun k => box_cells hpr k
  have hqf : ∀ k, w3.frozen? ⟨w.heap.size, k, none⟩ = false := fun k => seg_frozen hpr k
  unfold segV zeroS at hqc
  dsimp only [List.length_nil] at hqc
  have HPR : Hid (w3.heap[w.heap.size]? = some (.cells (segV zeroS none 0 none 0) 26)) := hpr
  have HQ : Hid (q ≠ w.heap.size ∧ w.heap.size < q) := ⟨by omega, by omega⟩
  have H3 : Hid (SegCells w3 q S ka kc da dc ∧ BlksAt w3 ka S.sk ∧ (∀ x, ka = some x → q < x.block) ∧ But q wc w3) := ⟨hS3, hK3, hkq, hbut3⟩
  clear h1 h2 h3 h4 h5 h6 hS3 hK3 hkq hbut3 hpr
  go_wp2_with fail
  obtain ⟨hS3, hK3, hkq, hbut3⟩ := H3.out
  obtain ⟨h1, h2, h3, h4, h5, h6⟩ := H.out
  have hSf := setAll_seg HPR.out S ka kc da dc
  have hbf := setAll_but (segL S ka kc da dc) w3 w.heap.size
  obtain ⟨Wf, hWf⟩ : ∃ Wf, setAll w3 w.heap.size (segL S ka kc da dc) = Wf := ⟨_, rfl⟩
  rw [hWf] at hSf hbf
  obtain ⟨f0, f1, f2, f3, f4, f5, f6, f7, f8, f9, f10, f11, f12, f13, f14⟩ := boxAt_of hSf
  show bodyPost Tryd.prog Tryd.f34 _ Exit.ret _ (setAll w3 w.heap.size (segL S ka kc da dc))
  rw [hWf]
  refine ⟨rfl, .agg (segV S ka kc da dc), ?_, ?_⟩
  · simp [results, Tryd.results34, go_sem, f0, f1, f2, f3, f4, f5, f6, f7, f8, f9, f10, f11, f12, f13, f14, segV]
  · have hda : S.da = tl := by rw [rd_da HRD.out.1]; show bs.drop (offI bs) = tl; rw [HRD.out.2]; exact HTL.out
    refine ⟨⟨ka, kc, da, dc, rfl, hK3.but hbf (fun x hx => by have := hkq x hx; have := HQ.out; omega), ?_, h4, fun x hx => by have := hkq x hx; have := HQ.out; omega, fun x hx => by have := h3 x hx; omega⟩, ?_⟩
    · rw [hda]
      exact (h2.but hbut3 (fun x hx => (h3 x hx).1)).but hbf (fun x hx => by have := (h3 x hx).2; omega)
    · have e1 : Below w.heap.size w wc := HBW.out.trans (h6.mono (by omega))
      exact (e1.trans (hbut3.below (by have := HQ.out; omega) (by have := (Array.getElem?_eq_some_iff.1 h1).1; omega))).trans (hbf.below (Nat.le_refl _) (by have := (Array.getElem?_eq_some_iff.1 HPR.out).1; omega))
end Go.Proofs.YtllmeeebjjmanaaDoor
